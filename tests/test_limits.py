"""Webs and gates at the limits of the document, and lists that belong to nobody else."""

from helpers import Case, chance_of, some_rule

from onebasis.affine import Affine
from onebasis.affineforms import affine_beside, affine_closed
from onebasis.around import around, delta, with_rule
from onebasis.bars import strands
from onebasis.bestbits import best_bits
from onebasis.blame import blame, exchanged
from onebasis.bases import Basis, changed, inverse
from onebasis.boards import board_of, board_sum
from onebasis.channels import channels, parting, ways
from onebasis.chords import chord_rule
from onebasis.classbases import affine_bases, affine_kinds, class_basis_sum, product_bases
from onebasis.classes import classes
from onebasis.closings import closings
from onebasis.courses import course_of, is_course, region_rule, regions, ring
from onebasis.cuts import least_cut
from onebasis.drawings import drawn, live_of
from onebasis.edits import edited
from onebasis.entries import bound, idle
from onebasis.errors import TooMany
from onebasis.foundforms import form_of
from onebasis.gatemoves import moves_of
from onebasis.gates import Gate, gate_web, is_flat_gate
from onebasis.journals import journal, taken_up
from onebasis.kin import kin
from onebasis.legturns import least_turning, legs_alike, legs_turned, turned_telling
from onebasis.lines import line_of
from onebasis.lives import Live
from onebasis.lots import bases_of
from onebasis.lumps import edge_of, lumped
from onebasis.onesrules import equations
from onebasis.products import Product
from onebasis.productsums import product_closed
from onebasis.readers import rules_of_text
from onebasis.renumbers import least_renumbering, places_alike, renumbered, telling
from onebasis.roads import best_road, fence_of, is_fence
from onebasis.roadsums import road_counts, road_sum
from onebasis.rules import Rule, mirrored, ones, turned
from onebasis.ruletexts import rule_parts
from onebasis.shares import pinned, shares
from onebasis.shorts import bunches_of, factors
from onebasis.sided import side_changed, sides
from onebasis.stops import stopped, stops
from onebasis.tiebases import tie_bases
from onebasis.webs import Web, faces, is_flat, part, pieces


def pairs_web(prime, rule):
    """25 pairs of places with eight ties each, and ten places without legs."""
    ties = [((2 * n, k), (2 * n + 1, 7 - k)) for n in range(25) for k in range(8)]
    return Web(prime, [rule] * 50 + [Rule(prime, [2])] * 10, ties, [])


class Limits(Case):
    def test_sixty_places_and_two_hundred_ties(self):
        for prime in (3, 97):
            web = pairs_web(prime, Rule(prime, [1] * 256))
            self.assertEqual((len(web.rules), len(web.ties)), (60, 200))
            self.assertEqual(len(pieces(web)), 35)
            self.assertEqual(len(faces(web)), 210)
            self.assertTrue(is_flat(web))
            course = course_of(web)
            self.same(course, [((2 * n, 0), (2 * n + 1, 7)) for n in range(25)])
            self.assertTrue(is_course(web, course))
            self.assertEqual(len(regions(web, course)), 85)
            self.assertEqual(ring(web, course, 84), ())
            self.assertEqual(region_rule(web, course, 84), Rule(prime, [256 % prime]))
            self.assertEqual(region_rule(web, course, 0), Rule(prime, [1] * 256))
            self.assertEqual(len(part(web, list(range(2, 60))).ties), 192)
            for call, more in ((idle, ()), (bound, ([],)), (around, (0, ())), (blame, (web,))):
                self.refuses(TooMany, 12, call, web, *more)
            self.assertEqual(with_rule(web, 59, Rule(prime, [1])).rules[59], Rule(prime, [1]))
            self.assertEqual(exchanged(web, web, list(range(60))), web)

    def test_eight_legs(self):
        chance = chance_of(40)
        for prime in (3, 97):
            rule = some_rule(chance, prime, 8)
            self.assertEqual(turned(turned(rule, 3), 5), rule)
            self.assertEqual(mirrored(mirrored(rule)), rule)
            self.assertEqual(delta(prime, (1,) * 8).table[255], 1)
            web = Web(prime, [rule], [], [(0, k) for k in range(8)])
            for bits in ((0,) * 8, (1, 0) * 4):
                self.assertEqual(around(web, 0, bits), delta(prime, bits))
            self.assertEqual(len(idle(Web(prime, [rule, Rule(prime, [0])], [], [(0, k) for k in range(8)]))), 256)
            loops = Web(prime, [rule], [((0, 2 * k), (0, 2 * k + 1)) for k in range(4)], [])
            self.assertEqual(sum(around(loops, 0, ()).table), 16)
            self.assertTrue(is_flat(loops))
            self.assertEqual(ring(loops, [], 0), ())
            self.assertEqual(len(edited(loops, ("merge", (0, 7))).rules[0].table), 64)
            basis = Basis(prime, [[1, 2], [1, 1]])
            self.assertEqual(changed(changed(rule, basis), inverse(basis)), rule)

    def test_no_places(self):
        web = Web(97, [], [], [])
        self.same((pieces(web), faces(web), course_of(web), regions(web, [])), ([], [], [], []))
        self.assertTrue(is_flat(web))
        self.assertEqual(blame(web, web), {(): Rule(97, [1])})
        gate = Gate(97, [], [], [])
        self.assertTrue(is_flat_gate(gate))
        self.assertEqual(gate_web(gate), web)


class OwnLists(Case):
    def test_two_calls_return_lists_of_their_own(self):
        web = Web(3, [Rule(3, [0, 1]), Rule(3, [0, 1])], [((0, 0), (1, 0))], [])
        lot = [(0, (0,)), (1, (0,))]
        gate = Gate(3, [1, 1], [((0, 0), (1, 0), 0)], [])
        calls = ((pieces, web), (faces, web), (course_of, web), (regions, web, course_of(web)), (idle, web),
                 (moves_of, gate), (kin, Rule(3, [1]), Rule(3, [1])), (equations, ones(3, 3, [0] * 4)))
        for call, *things in calls:
            first, second = call(*things), call(*things)
            self.assertEqual(first, second)
            self.assertTrue(first)
            first.clear()
            self.assertEqual(call(*things), second)
        told = bound(web, lot)
        told[0].clear()
        self.assertEqual(bound(web, lot), (lot, (), 1))
        told = blame(web, web)
        told.clear()
        self.assertEqual(len(blame(web, web)), 1)

    def test_what_is_handed_in_stays(self):
        lot = [(0, (0,)), (1, (0,))]
        web = Web(3, [Rule(3, [0, 1]), Rule(3, [0, 1])], [((0, 0), (1, 0))], [])
        bound(web, lot)
        self.assertEqual(lot, [(0, (0,)), (1, (0,))])
        course = [((0, 0), (1, 0))]
        ring(web, course, 2)
        regions(web, course)
        self.assertEqual(course, [((0, 0), (1, 0))])
        chords = [(1, 2, 1), (0, 1, 2)]
        chord_rule(3, 3, chords, 1)
        self.assertEqual(chords, [(1, 2, 1), (0, 1, 2)])
        self.assertEqual(web, Web(3, [Rule(3, [0, 1])] * 2, [((0, 0), (1, 0))], []))

    def test_sums_and_live_webs_return_lists_of_their_own(self):
        rule = Rule(3, [0, 1, 1, 0])
        web = Web(3, [rule, rule], [((0, 0), (1, 1)), ((0, 1), (1, 0))], [])
        crossed = Web(3, [ones(3, 3, [0, 1, 0, 0])] * 2, [((0, k), (1, k)) for k in range(3)], [])
        line, course = line_of(web), course_of(web)
        live = live_of(web, course)
        live.whole_sum()
        calls = ((line_of, web), (strands, web), (closings, web, line), (board_of, web, line), (edge_of, web, [0]),
                 (shares, web), (least_cut, crossed, 1), (best_road, web), (fence_of, web, 1), (sides, web),
                 (road_counts, web, [0, 1]), (bases_of, 3, [rule], []), (stops, rule), (rule_parts, rule),
                 (drawn, web, course), (live.course,), (live.deeds,))
        for call, *things in calls:
            first, second = call(*things), call(*things)
            self.assertEqual(first, second)
            self.assertTrue(first)
            first.clear()
            self.assertEqual(call(*things), second)
        live.kept()[0].clear()
        self.same(live.kept(), ([0, 1, 2], []))
        self.same((line, course), (line_of(web), course_of(web)))

    def test_what_is_handed_to_sums_and_deeds_stays(self):
        rule = Rule(3, [0, 1, 1, 0])
        web = Web(3, [rule, rule], [((0, 0), (1, 1)), ((0, 1), (1, 0))], [])
        line, road, ties, lefts, rules = line_of(web), [1, 0], [web.ties[0]], [0], [Rule(3, [1, 0])] * 2
        weights, rows, fence = [3, -2], stops(rule), [[]]
        told = [list(x) for x in (line, road, ties, lefts, rules, weights, fence)] + [[list(row) for row in rows]]
        closings(web, line)
        board_sum(web, line)
        road_sum(web, road)
        pinned(web, ties, (1,))
        lumped(web, lefts)
        side_changed(web, lefts, Basis(3, ((1, 0), (0, 1))))
        best_bits(form_of(rule), weights)
        stopped(3, rows)
        is_fence(web, 1, fence)
        live = Live(3)
        live.add(Rule(3, [1]))
        live.add(Rule(3, [1]))
        live.draw((0, 0), (1, 0), rules)
        live.undo()
        live.redo()
        self.same([line, road, ties, lefts, rules, weights, fence, rows], told)

    def test_affine_and_product_rules(self):
        rule = Rule(5, [1, 2])
        calls = ((tie_bases, 5), (affine_kinds, 5), (affine_bases, 5, [rule], []), (product_bases, 5, [rule], []))
        for call, *things in calls:
            first, second = call(*things), call(*things)
            self.assertEqual(first, second)
            self.assertTrue(first)
            first.clear()
            self.assertEqual(call(*things), second)
        ways, powers, pairs = [(1, 0), (0, 1)], [1, 3], [(0, 1)]
        form = Affine(5, 2, 1, (0, 0), ways, powers, pairs)
        bunches = [((0,), (0,), 1), ((1,), (0,), 2)]
        product = Product(5, 1, bunches)
        rules, lefts = [rule, rule], [0]
        affine_closed(form, 0, 1)
        affine_beside(form, form)
        product_closed(product, 0, 1)
        affine_bases(5, rules, rules)
        class_basis_sum(Web(5, rules, [((0, 0), (1, 0))], []), lefts)
        self.same((ways, powers, pairs, bunches, rules, lefts),
                  ([(1, 0), (0, 1)], [1, 3], [(0, 1)], [((0,), (0,), 1), ((1,), (0,), 2)], [rule, rule], [0]))
        for thing in (ways, powers, pairs, bunches):
            thing.clear()
        self.assertEqual(form, Affine(5, 2, 1, (0, 0), [(1, 0), (0, 1)], [1, 3], [(0, 1)]))
        self.assertEqual(product.bunches, (((0,), (0,), 1), ((1,), (0,), 2)))

    def test_renumberings_texts_and_benches(self):
        rule = Rule(5, [1, 2, 3, 4])
        web = Web(5, [rule, rule], [((0, 0), (1, 1)), ((0, 1), (1, 0))], [])
        bench = taken_up(web, ["ask sum -", "flip 0.0"])
        calls = ((bunches_of, rule), (classes, [Rule(5, [1])]), (telling, web, 0), (least_renumbering, web, web),
                 (places_alike, web), (turned_telling, web, 0, 0), (legs_alike, web), (parting, web, 0, 1), (ways, web, 0, 1),
                 (journal, bench), (rules_of_text, "mod 5 | [1]"))
        for call, *things in calls:
            first, second = call(*things), call(*things)
            self.assertEqual(first, second)
            self.assertTrue(first)
            first.clear()
            self.assertEqual(call(*things), second)
        for told in (factors(rule), channels(web, 0, 1, ()), least_turning(web, web)):
            self.assertTrue(told[1])
            told[1].clear()
        self.assertEqual((factors(rule)[1], len(channels(web, 0, 1, ())[1])), ([rule], 4))
        self.assertEqual(least_turning(web, web), ([0, 1], [0, 0]))
        rules, order, turns, lines = [rule, rule], [1, 0], [1, 1], ["flip 0.0"]
        classes(rules)
        renumbered(web, order)
        legs_turned(web, turns)
        taken_up(web, lines)
        self.same((rules, order, turns, lines), ([rule, rule], [1, 0], [1, 1], ["flip 0.0"]))
