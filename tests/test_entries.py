from itertools import combinations, product

from helpers import ODD_THINGS, Case, at, brute_sum, chance_of, some_web
from test_around import long_web

from onebasis.entries import bound, idle, is_free
from onebasis.errors import BadEntries, BadWeb, TooMany
from onebasis.rules import Rule
from onebasis.webs import Web

PAIR = Web(3, [Rule(3, [0, 1]), Rule(3, [0, 1])], [((0, 0), (1, 0))], [])
LOT = [(0, (0,)), (1, (0,))]


def with_numbers(web, numbers):
    """The web with these numbers at entries."""
    rules = []
    for place, rule in enumerate(web.rules):
        tuples = product((0, 1), repeat=rule.legs)
        rules.append(Rule(web.prime, [numbers.get((place, bits), at(rule, bits)) for bits in tuples]))
    return Web(web.prime, rules, web.ties, web.outer)


def entries_of(web):
    return [(p, bits) for p, rule in enumerate(web.rules) for bits in product((0, 1), repeat=rule.legs)]


def plain_free(web, lot):
    """Whether all numbers at the entries give one sum."""
    wanted = brute_sum(web)
    numbers = product(range(web.prime), repeat=len(lot))
    return all(brute_sum(with_numbers(web, dict(zip(lot, told)))) == wanted for told in numbers)


def plain_bound(web, lot):
    """The first triple, straight from the words of the document."""
    triples = []
    for many in range(1, len(lot) + 1):
        for some in combinations(lot, many):
            if len({place for place, _ in some}) == many:
                numbers = {entry: 0 for entry in lot}
                for place, _ in some:
                    for bits in product((0, 1), repeat=web.rules[place].legs):
                        numbers[place, bits] = 1 if (place, bits) in some else 0
                for bits, number in zip(product((0, 1), repeat=len(web.outer)), brute_sum(with_numbers(web, numbers))):
                    if number:
                        triples.append((many, list(some), bits, number))
    return min(triples)[1:] if triples else None


class Entries(Case):
    def test_by_hand(self):
        self.same(idle(PAIR), LOT)
        self.assertIs(is_free(PAIR, LOT), False)
        self.same(bound(PAIR, LOT), (LOT, (), 1))
        self.assertIs(is_free(PAIR, LOT[:1]), True)
        self.assertIsNone(bound(PAIR, tuple(LOT[1:])))
        self.assertIs(is_free(PAIR, []), True)

    def test_idle_against_all_numbers(self):
        chance = chance_of(81)
        for _ in range(15):
            web = self.sparse(chance)
            wanted = [entry for entry in entries_of(web) if plain_free(web, [entry])]
            self.same(idle(web), wanted)

    def test_free_and_bound_against_all_numbers(self):
        chance = chance_of(82)
        seen = set()
        for _ in range(60):
            web = self.sparse(chance)
            every = entries_of(web)
            lot = sorted(chance.sample(every, min(len(every), chance.randrange(4))))
            free = plain_free(web, lot)
            seen.add(free)
            self.assertIs(is_free(web, lot), free)
            told = bound(web, lot)
            self.same(told, plain_bound(web, lot))
            self.assertEqual(told is None, free)
        self.assertEqual(seen, {True, False})

    def sparse(self, chance):
        """A web of few legs with many zeros in its tables."""
        web = some_web(chance, 3, 3, 2, 2)
        rules = [Rule(3, [x * chance.choice((0, 0, 1)) for x in rule.table]) for rule in web.rules]
        return Web(3, rules, web.ties, web.outer)

    def test_no_places_and_no_legs(self):
        self.same(idle(Web(3, [], [], [])), [])
        bare = Web(3, [Rule(3, [0]), Rule(3, [0])], [], [])
        self.same(idle(bare), [(0, ()), (1, ())])
        self.same(bound(bare, [(0, ()), (1, ())]), ([(0, ()), (1, ())], (), 1))

    def test_refused(self):
        for thing in ODD_THINGS:
            self.refuses(BadWeb, None, idle, thing)
            self.refuses(BadWeb, None, is_free, thing, None)
            self.refuses(BadWeb, None, bound, thing, None)
        for lot in (None, 5, [1], LOT[::-1], LOT + LOT[1:], [[0, (0,)]], [(0, [0])], [(0, (0, 0))], [(0, ())],
                    [(2, (0,))], [(-1, (0,))], [(False, (0,))], [(0, (False,))], [(0, (2,))], [(0,)], {LOT[0]: 1}):
            self.refuses(BadEntries, None, is_free, PAIR, lot)
            self.refuses(BadEntries, None, bound, PAIR, lot)
        five = [(0, bits) for bits in product((0, 1), repeat=3)][:5]
        web = Web(3, [Rule(3, [1] * 8)], [], [(0, 0), (0, 1), (0, 2)])
        self.refuses(BadEntries, None, bound, web, five)
        self.assertEqual(bound(web, five[:4]), ([five[0]], (0, 0, 0), 1))
        for outer in (0, 1):
            self.refuses(TooMany, 12, idle, long_web(outer))
            self.refuses(TooMany, 12, is_free, long_web(outer), [])
            self.refuses(TooMany, 12, bound, long_web(outer), [])
            self.refuses(BadEntries, None, bound, long_web(outer), None)
