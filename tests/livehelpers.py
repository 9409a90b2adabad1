"""A plain model of live webs: rings of ends round places, and what is kept, by the words of the document, for the tests."""

from itertools import product

from formhelpers import some_even_rule, some_formed_rule
from helpers import at, is_sphere, some_rule

from onebasis.courses import ring
from onebasis.rules import Rule
from onebasis.webs import Web


class PlainLive:
    """Places with rules and rings of ends (tie, side); ties and the course are told by numbers that never change."""

    def __init__(self, prime):
        self.prime = prime
        self.state = ((), (), ())  # the rings, the rules, the course
        self.fresh = 0
        self.done, self.undone = [], []
        self.forms, self.rounds = set(), set()
        self.made = 0

    def where(self, state=None):
        rings = (state or self.state)[0]
        return {end: (p, k) for p, told in enumerate(rings) for k, end in enumerate(told)}

    def tie_names(self):
        """The dict from the ties as a web tells them to their numbers."""
        where = self.where()
        return {tuple(sorted((where[n, 0], where[n, 1]))): n for n in {n for n, _ in where}}

    def web(self):
        return Web(self.prime, list(self.state[1]), list(self.tie_names()), [])

    def course(self):
        told = {n: tie for tie, n in self.tie_names().items()}
        return [told[n] for n in self.state[2]]

    def regions(self, state=None):
        """For each region the pair of its places and of the numbers of the ties that made it, and its parts."""
        rings, _, course = state or self.state
        where = self.where(state)
        names = [(frozenset([p]), frozenset()) for p in range(len(rings))]
        parts = {}
        now = {p: (frozenset([p]), frozenset()) for p in range(len(rings))}
        for n in course:
            one, other = now[where[n, 0][0]], now[where[n, 1][0]]
            if where[n, 1] < where[n, 0]:
                one, other = other, one
            joined = (one[0] | other[0], one[1] | other[1] | {n})
            names.append(joined)
            parts[joined] = (one, other)
            now.update({p: joined for p in joined[0]})
        return names, parts

    def kept(self):
        names = self.regions()[0]
        return ([k for k, name in enumerate(names) if name in self.forms],
                [k for k, name in enumerate(names) if name in self.rounds])

    def need_form(self, name):
        if name not in self.forms:
            for part in self.regions()[1].get(name, ()):
                self.need_form(part)
            self.forms.add(name)
            self.made += 1

    def lasts(self):
        names, parts = self.regions()
        held = {part for pair in parts.values() for part in pair}
        return [name for name in names if name not in held]

    def need_round(self, name):
        if name not in self.rounds:
            parts = self.regions()[1]
            thirds = [third for third, pair in parts.items() if name in pair]
            if thirds:
                self.need_round(thirds[0])
                for part in parts[thirds[0]]:
                    if part != name:
                        self.need_form(part)
            else:
                for other in self.lasts():
                    if other != name:
                        self.need_form(other)
            self.rounds.add(name)
            self.made += 1

    def move(self, state, reached, quiet):
        """Goes to a state, and lets go what it must."""
        self.state = state
        names = self.regions()[0]
        self.forms = {name for name in self.forms if name in names and not name[0] & set(reached)}
        self.rounds = {name for name in self.rounds if quiet and reached[0] in name[0]}

    def deed(self, state, reached, quiet=False):
        self.done.append((self.state, state, reached, quiet))
        self.undone.clear()
        self.move(state, reached, quiet)

    def add(self, rule):
        rings, rules, course = self.state
        self.deed((rings + ((),), rules + (rule,), course), [len(rings)])

    def put(self, place, rule):
        rings, rules, course = self.state
        self.deed((rings, rules[:place] + (rule,) + rules[place + 1:], course), [place], True)

    def with_tie(self, one, other):
        """The rings with a new tie, and the number of this."""
        rings = [list(told) for told in self.state[0]]
        (p, i), (q, j) = one, other
        first, second = (self.fresh, 0), (self.fresh, 1)
        if p != q:
            rings[p] = rings[p][:i] + [first] + rings[p][i:]
            rings[q] = rings[q][:j] + [second] + rings[q][j:]
        elif i <= j:
            rings[p] = rings[p][:i] + [first] + rings[p][i:j] + [second] + rings[p][j:]
        else:
            rings[p] = rings[p][:j] + [second] + rings[p][j:i] + [first] + rings[p][i:]
        return tuple(tuple(told) for told in rings)

    def is_flat_with(self, one, other):
        return is_sphere([list(told) for told in self.with_tie(one, other)])

    def apart(self, one, other, numbers):
        """Whether ties of these numbers do not lead one place to the other."""
        where = self.where()
        reached = {one}
        for _ in self.state[0]:
            for n in numbers:
                ends = {where[n, 0][0], where[n, 1][0]}
                if ends & reached:
                    reached |= ends
        return other not in reached

    def draw(self, one, other, rules):
        every = {n for n, _ in self.where()}
        course = self.state[2] + ((self.fresh,) if self.apart(one[0], other[0], every) else ())
        told = list(self.state[1])
        for place, rule in zip(dict.fromkeys([one[0], other[0]]), rules):
            told[place] = rule
        self.deed((self.with_tie(one, other), tuple(told), course), [one[0], other[0]])
        self.fresh += 1

    def drop(self, tie, rules):
        number = self.tie_names()[tie]
        rings = tuple(tuple(end for end in told if end[0] != number) for told in self.state[0])
        told = list(self.state[1])
        for place, rule in zip(dict.fromkeys([tie[0][0], tie[1][0]]), rules):
            told[place] = rule
        course = tuple(n for n in self.state[2] if n != number)
        if len(course) < len(self.state[2]):
            places = [p for p in range(len(rings)) if not self.apart(tie[0][0], p, course)]
            others = [p for p in range(len(rings)) if not self.apart(tie[1][0], p, course)]
            again = sorted((x, n) for x, n in self.tie_names().items() if n != number
                           and {x[0][0] in places, x[1][0] in places} == {True, False}
                           and {x[0][0] in others, x[1][0] in others} == {True, False})
            course += tuple(n for _, n in again[:1])
        self.deed((rings, tuple(told), course), [tie[0][0], tie[1][0]])

    def undo(self):
        ahead, behind, reached, quiet = self.done.pop()
        self.undone.append((ahead, behind, reached, quiet))
        self.move(ahead, reached, quiet)

    def redo(self):
        ahead, behind, reached, quiet = self.undone.pop()
        self.done.append((ahead, behind, reached, quiet))
        self.move(behind, reached, quiet)


def some_deed(chance, model, most_places=5, most_ties=8):
    """A made-up deed that is not refused: its name and what it is done with."""
    places = range(len(model.state[0]))
    make = chance.choice((some_formed_rule,) + (some_even_rule,) * 5)
    kind = chance.choice(("add", "put", "draw", "draw", "draw", "draw", "drop", "undo", "redo"))
    ties = list(model.tie_names())
    if kind == "undo" and model.done or kind == "redo" and model.undone:
        return kind, ()
    if kind == "add" and len(places) < most_places:
        return "add", (Rule(model.prime, [chance.randrange(1, model.prime)]),)
    if kind == "put" and places:
        place = chance.choice(places)
        return "put", (place, make(chance, model.prime, len(model.state[0][place])))
    if kind == "drop" and ties:
        tie = chance.choice(sorted(ties))
        return "drop", (tie, rules_for(chance, model, [tie[0][0], tie[1][0]], -1, make))
    if places and len(ties) < most_ties:
        for _ in range(20):
            one, other = [(p, chance.randrange(len(model.state[0][p]) + 1)) for p in chance.choices(places, k=2)]
            if max(len(model.state[0][p]) for p in (one[0], other[0])) < 4 and model.is_flat_with(one, other):
                return "draw", (one, other, rules_for(chance, model, [one[0], other[0]], 1, make))
    return "add", (Rule(model.prime, [1]),)


def rules_for(chance, model, places, more, make=some_formed_rule):
    """Made-up rules for places with so many legs more each."""
    if places[0] == places[1]:
        return [make(chance, model.prime, len(model.state[0][places[0]]) + 2 * more)]
    return [make(chance, model.prime, len(model.state[0][p]) + more) for p in places]


def plain_round(web, places, legs):
    """The worths at all bits of these legs: sums over all bits of all ties that meet no leg of these or are at other
    places alone, of the products at all other places; 0 where the two legs of a tie would have unlike bits.

    A tie that is closed at the places, of which no leg is among legs, is left out."""
    worths = []
    shut = [tie for tie in web.ties if tie[0][0] in places and tie[1][0] in places and tie[0] not in legs]
    free = [tie for tie in web.ties if tie not in shut and tie[0] not in legs and tie[1] not in legs]
    for told in product((0, 1), repeat=len(legs)):
        bits = dict(zip(legs, told))
        unlike = False
        for one, other in web.ties:
            if one in bits and other in bits:
                unlike = unlike or bits[one] != bits[other]
            elif one in bits or other in bits:
                bits[one] = bits[other] = bits[one] if one in bits else bits[other]
        total = 0
        for inner in product((0, 1), repeat=0 if unlike else len(free)):
            for tie, bit in zip(free, inner):
                bits[tie[0]] = bits[tie[1]] = bit
            number = 0 if unlike else 1
            for place, rule in enumerate(web.rules):
                if place not in places and number:
                    number *= at(rule, [bits[place, k] for k in range(rule.legs)])
            total += number
        worths.append(total % web.prime)
    return worths


def plain_surrounding(web, course, region, places):
    """The worths of the surrounding of a region, its leg j facing the ring's leg r - 1 - j."""
    legs = list(ring(web, course, region))
    told = plain_round(web, places, legs)
    every = list(product((0, 1), repeat=len(legs)))
    return [told[every.index(bits[::-1])] for bits in every]


def unformed_rule(chance, prime, legs):
    """A made-up rule with at least one leg that has no form."""
    table = list(some_rule(chance, prime, legs).table)
    table[0] = table[1] = 1
    return Rule(prime, table)
