from itertools import product

from formhelpers import plain_rule_of, some_form, some_formed_rule, some_skew, zero_form
from helpers import ODD_THINGS, Case, at, chance_of, some_rule

from onebasis.errors import BadForm, BadNumber, BadRule
from onebasis.forms import Form, rule_of
from onebasis.formnumbers import form_at, how_many_forms
from onebasis.formsums import paired
from onebasis.foundforms import has_form
from onebasis.normals import is_normal, normal
from onebasis.rules import Rule
from onebasis.stops import is_stop, stopped, stops, stops_of


def plainly_stop(rule, z):
    """Whether the sums over all legs are 0 at all bits, straight from the words of the document."""
    for b in product((0, 1), repeat=rule.legs):
        total = 0
        for i, bit in enumerate(b):
            flipped = b[:i] + (1 - bit,) + b[i + 1:]
            total += (-1) ** sum(b[:i]) * z[2 * i + bit] * at(rule, flipped)
        if total % rule.prime:
            return False
    return True


def is_reduced(rows):
    """Whether each list begins with a 1, further right than the one ahead, with 0 there in the other lists."""
    leads = [next((k for k, x in enumerate(row) if x), None) for row in rows]
    if None in leads or leads != sorted(set(leads)):
        return False
    return all(rows[j][lead] == int(k == j) for k, lead in enumerate(leads) for j in range(len(rows)))


def span(prime, rows, many):
    """All sums of the rows with factors."""
    found = {(0,) * many}
    for row in rows:
        found = {tuple((x + f * y) % prime for x, y in zip(told, row)) for told in found for f in range(prime)}
    return found


def is_isotropic(prime, rows):
    return not any(sum(u[k] * v[k ^ 1] for k in range(len(u))) % prime for u in rows for v in rows)


class Stops(Case):
    def test_all_lists_of_few_legs(self):
        chance = chance_of(260)
        rules = [Rule(3, table) for table in product(range(3), repeat=2)] + [Rule(3, [0]), Rule(3, [2])]
        rules += [some_rule(chance, 3, 2) for _ in range(25)] + [Rule(3, [0] * 4)]
        rules += [some_formed_rule(chance, 3, 2) for _ in range(25)]
        for rule in rules:
            wanted = {z for z in product(range(3), repeat=2 * rule.legs) if plainly_stop(rule, z)}
            for z in product(range(3), repeat=2 * rule.legs):
                self.assertIs(is_stop(rule, list(z)), z in wanted)
            rows = stops(rule)
            self.assertEqual([type(row) for row in [rows] + rows], [list] * (len(rows) + 1))
            self.assertTrue(is_reduced(rows))
            self.assertEqual(span(3, rows, 2 * rule.legs), wanted)

    def test_as_many_as_legs_exactly_if_there_is_a_form(self):
        chance = chance_of(261)
        found = {True: 0, False: 0}
        for number in range(200):
            prime, legs = (3, 7, 97)[number % 3], number % 5
            rule = (some_rule, some_formed_rule)[number % 2](chance, prime, legs)
            if number % 4 == 2:
                even = [k for k in range(1 << legs) if bin(k).count("1") % 2 == 0]
                rule = Rule(prime, [chance.randrange(prime) if k in even else 0 for k in range(1 << legs)])
            rows = stops(rule)
            if any(rule.table):
                self.assertLessEqual(len(rows), legs)
                self.assertIs(len(rows) == legs, has_form(rule))
                found[has_form(rule)] += 1
            self.assertTrue(is_reduced(rows))
            self.assertTrue(all(plainly_stop(rule, row) and is_stop(rule, row) for row in rows))
            if rows:
                wrong = list(rows[0])
                wrong[chance.randrange(2 * legs)] += 1
                wrong = [x % prime for x in wrong]
                self.assertIs(is_stop(rule, tuple(wrong)), plainly_stop(rule, wrong))
        self.assertGreater(min(found.values()), 30)
        self.assertEqual(len(stops(Rule(5, [0] * 256))), 16)

    def test_stops_of_forms(self):
        chance = chance_of(262)
        for number in range(120):
            form = some_form(chance, (3, 7, 97)[number % 3], number % 7, chance.choice((0, 3, 5, 7)))
            rows = stops_of(form)
            self.assertEqual(rows, stops(plain_rule_of(form)))
            back = stopped(form.prime, rows)
            self.assertEqual((back.number, is_normal(back)), (1, True))
            wanted = normal(form)
            self.assertEqual(back, Form(form.prime, 1, wanted.flips, wanted.table))
        for legs in range(4):
            told = Form(7, 0, (), some_skew(chance, 7, legs))
            self.same(stops_of(told), [[int(k == j) for k in range(2 * legs)] for j in range(2 * legs)])
            self.assertEqual(stops_of(told), stops(rule_of(told)))

    def test_all_rows_of_few_legs(self):
        for prime, legs in ((3, 1), (3, 2), (5, 1), (5, 2)):
            told = {}
            for number in range(1, how_many_forms(prime, legs)):
                form = form_at(prime, legs, number)
                if form.number == 1:
                    told[tuple(map(tuple, stops_of(form)))] = form
            every = [rows for rows in product(product(range(prime), repeat=2 * legs), repeat=legs)
                     if is_reduced(rows) and is_isotropic(prime, rows)] if prime ** (2 * legs * legs) < 10 ** 5 else list(told)
            self.assertEqual(sorted(told), sorted(every))
            for rows in every:
                self.assertEqual(stopped(prime, rows), told[rows])
                self.same(stops_of(stopped(prime, list(map(list, rows)))), list(map(list, rows)))
        self.assertEqual(stopped(7, []), Form(7, 1, (), []))

    def test_sixty_legs(self):
        chance = chance_of(263)
        for zeros in (0, 4, 6):
            form = some_form(chance, 97, 60, zeros)
            rows = stops_of(form)
            self.assertEqual(len(rows), 60)
            self.assertTrue(is_reduced(rows))
            self.assertTrue(is_isotropic(97, rows[:10]))
            wanted = normal(form)
            self.assertEqual(stopped(97, rows), Form(97, 1, wanted.flips, wanted.table))
            self.assertEqual(stops_of(stopped(97, tuple(map(tuple, rows)))), rows)
        self.assertEqual(len(stops_of(zero_form(97, 60))), 120)

    def test_pairs_that_make_0(self):
        chance = chance_of(264)
        found = {True: 0, False: 0}
        for number in range(300):
            prime, legs = (3, 5)[number % 2], number % 4
            form, other = [some_form(chance, prime, legs, chance.choice((0, 3))) for _ in range(2)]
            swapped = {tuple(z[k ^ 1] for k in range(2 * legs)) for z in span(prime, stops_of(other), 2 * legs)}
            both = span(prime, stops_of(form), 2 * legs) & swapped
            self.assertIs(paired(form, other) == 0, len(both) > 1)
            found[len(both) > 1] += 1
        self.assertGreater(min(found.values()), 60)

    def test_refused(self):
        rule, form = Rule(3, [1, 0, 0, 1]), zero_form(3, 2)
        for thing in ODD_THINGS:
            self.refuses(BadRule, None, is_stop, thing, None)
            self.refuses(BadRule, None, stops, thing)
            self.refuses(BadForm, None, stops_of, thing)
        for thing in ODD_THINGS + [[0] * 3, [0] * 5, [0, 0, 0, 3], [0, 0, 0, -1], [0, 0, 0, True], [0, 0, 0, None]]:
            self.refuses(BadNumber, "numbers", is_stop, rule, thing)
        for thing in ODD_THINGS + [2, 9, 101]:
            self.refuses(BadForm, "prime", stopped, thing, None)
        good = stops_of(form)[:2]
        good = stops_of(Form(3, 1, (), [[0, 1], [2, 0]]))
        self.assertEqual(stopped(3, good), Form(3, 1, (), [[0, 1], [2, 0]]))
        for thing in (None, 5, "", {}, [None], [[1]], [[0, 0]], [[1, 1]], [[2, 0]], good[:1], good[::-1], [good[0]] * 2,
                      [good[0], [0] * 4], [good[0], [2 * x % 3 for x in good[1]]], [good[0], None], good + [good[1]],
                      [good[0], [True if x == 1 else x for x in good[1]]], [[1, 0, 0, 1], [0, 0, 1, 0]],
                      [[1, 0, 0, 0], [0, 1, 0, 0]], [[1, 0, 0, 0], [0, 0, 1, 1]], [[1, 0, 1, 0], [0, 0, 1, 0]],
                      [[int(k == 2 * j) for k in range(122)] for j in range(61)]):
            self.refuses(BadForm, "rows", stopped, 3, thing)
        wide = [[int(k == 2 * j) for k in range(120)] for j in range(60)]
        self.assertEqual(stopped(3, wide), Form(3, 1, (), [[0] * 60] * 60))
