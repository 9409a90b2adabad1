from itertools import combinations

from helpers import ODD_THINGS, Case, chance_of, some_flat_outer_web, some_web
from test_lines import CROSSED, FLAT, R

from onebasis.bars import bar_of, is_bar, strands
from onebasis.errors import BadWeb
from onebasis.lines import is_line, line_of
from onebasis.rules import Rule
from onebasis.webs import Web, is_flat

BAR = ([((0, 0), (1, 0))], ((0, 1), (1, 1)), ((0, 2), (1, 2)))


def plain_strands(web):
    many = len(web.outer)
    return sorted(list(web.ties) + [(leg, (len(web.rules), many - 1 - k)) for k, leg in enumerate(web.outer)])


def plainly_bar(web, tree, one, other):
    """Whether ascending strands of the web and two more make a bar, straight from the words of the document."""
    counts = [rule.legs for rule in web.rules] + [len(web.outer)]
    if one == other or one in tree or other in tree:
        return False
    places = {leg[0] for strand in tree for leg in strand} if tree else {one[0][0]}
    if len(places) != len(tree) + 1 or any(leg[0] not in places for leg in one + other):
        return False
    reached = {min(places)}
    for _ in places:
        reached |= {leg[0] for strand in tree if any(x[0] in reached for x in strand) for leg in strand}
    if reached != places:
        return False
    met, at = [], one[0]
    while at != one[1]:
        met.append(at)
        for strand in tree:
            if at in strand:
                at = strand[1 - strand.index(at)]
                break
        at = (at[0], (at[1] + 1) % counts[at[0]])
    return sum(leg in met for leg in other) == 1


class Bars(Case):
    def test_by_hand(self):
        self.same(strands(CROSSED), list(CROSSED.ties))
        self.assertIs(is_bar(CROSSED, BAR), True)
        self.assertIs(is_bar(FLAT, BAR), False)
        self.assertIsNone(bar_of(FLAT))
        self.assertTrue(plainly_bar(CROSSED, *bar_of(CROSSED)))
        alone = Web(5, [R], [], [(0, 1), (0, 0), (0, 2)])
        self.same(strands(alone), [((0, 0), (1, 1)), ((0, 1), (1, 2)), ((0, 2), (1, 0))])
        loops = Web(3, [Rule(3, [1] * 16)], [((0, 0), (0, 2)), ((0, 1), (0, 3))], [])
        self.same(bar_of(loops), ([], ((0, 0), (0, 2)), ((0, 1), (0, 3))))
        self.assertIs(is_bar(loops, ((), ((0, 1), (0, 3)), ((0, 0), (0, 2)))), True)

    def test_all_lots_of_strands(self):
        chance = chance_of(410)
        found = {True: 0, False: 0}
        for number in range(60):
            web = some_web(chance, 3, chance.randrange(1, 5), chance.randrange(6))
            told = plain_strands(web)
            self.same(strands(web), told)
            if len(told) > 7:
                continue
            any_bar = False
            for many in range(len(told) - 1):
                for tree in combinations(told, many):
                    for one in told:
                        for other in told:
                            wanted = plainly_bar(web, tree, one, other)
                            self.assertIs(is_bar(web, (list(tree), one, other)), wanted)
                            any_bar = any_bar or wanted
            bar = bar_of(web)
            self.assertIs(any_bar, not is_flat(web))
            self.assertIs(bar is not None, any_bar)
            found[any_bar] += 1
        self.assertGreater(min(found.values()), 8)

    def test_a_line_or_a_bar(self):
        chance = chance_of(411)
        found = {True: 0, False: 0}
        for number in range(500):
            make = some_web if number % 2 else some_flat_outer_web
            web = make(chance, 3, chance.randrange(1, 6), chance.randrange(10))
            line, bar = line_of(web), bar_of(web)
            self.assertEqual((line is None) + (bar is None), 1)
            found[line is None] += 1
            if bar is None:
                self.assertTrue(is_line(web, line))
            else:
                self.assertIs(type(bar), tuple)
                self.assertTrue(plainly_bar(web, *bar))
                self.assertIs(is_bar(web, bar), True)
                self.changed_bars(chance, web, bar)
        self.assertGreater(min(found.values()), 60)

    def changed_bars(self, chance, web, bar):
        tree, one, other = bar
        told = plain_strands(web)
        for strand in chance.sample(told, min(3, len(told))):
            for changed in ((tree, strand, other), (tree, one, strand), (sorted(set(tree) ^ {strand}), one, other)):
                self.assertIs(is_bar(web, changed), plainly_bar(web, *changed))
        if len(tree) > 1:
            self.assertIs(is_bar(web, (tree[::-1], one, other)), False)
        for changed in ((tree, one[::-1], other), (tree, one, other[::-1]), (tree, one), (tree, one, other, one),
                        list(bar), (tree + [one], one, other), (tree + tree, one, other) if tree else None):
            self.assertIs(is_bar(web, changed), False)

    def test_pieces_that_are_far_apart(self):
        # Two crossed pairs and a flat one: a tree of strands of two pieces is none, though its places are one more.
        ties = list(CROSSED.ties) + [((p + 2, k), (q + 2, j)) for (p, k), (q, j) in CROSSED.ties]
        web = Web(5, [R] * 4, ties, [])
        self.assertIs(is_bar(web, BAR), True)
        self.assertIs(is_bar(web, ([((0, 0), (1, 0)), ((2, 0), (3, 0))], BAR[1], BAR[2])), False)
        self.assertIs(is_bar(web, ([((0, 0), (1, 0)), ((2, 0), (3, 0)), ((2, 1), (3, 1))], BAR[1], BAR[2])), False)
        self.assertIs(is_bar(web, ([], BAR[1], BAR[2])), False)
        self.assertIs(is_bar(web, (BAR[0], BAR[1], ((2, 2), (3, 2)))), False)
        later = Web(5, [R] * 4, list(FLAT.ties) + ties[3:], [])
        self.same(bar_of(later)[0], [((2, 0), (3, 0))])

    def test_outside_is_a_place(self):
        web = Web(5, [R, R], [((0, 0), (1, 0))], [(0, 1), (1, 1), (0, 2), (1, 2)])
        bar = bar_of(web)
        self.assertTrue(plainly_bar(web, *bar))
        self.assertIn(2, [leg[0] for strand in list(bar[0]) + list(bar[1:]) for leg in strand])

    def test_any_value(self):
        tree, one, other = BAR
        for thing in ODD_THINGS + [(), (tree,), (None, one, other), (tree, None, other), (tree, one, None),
                                   ([None], one, other), (tree, list(one), other), ([list(tree[0])], one, other),
                                   (tree, ((0, True), (1, 1)), other), (tree, ([0, 1], (1, 1)), other),
                                   ([((False, 0), (1, 0))], one, other), (tree, ((0, 1.0), (1, 1)), other),
                                   ({tree[0]: 1}, one, other), (tree, one, ((0, 2), (1, 3))), (tree[0], one, other)]:
            self.assertIs(is_bar(CROSSED, thing), False, thing)

    def test_refused(self):
        for thing in ODD_THINGS:
            self.refuses(BadWeb, None, strands, thing)
            self.refuses(BadWeb, None, is_bar, thing, BAR)
            self.refuses(BadWeb, None, bar_of, thing)
