from itertools import product

from classhelpers import added, plain_affine_table, plain_affine_worth, plain_unit, some_affine
from helpers import ODD_THINGS, Case, chance_of

from onebasis.affine import Affine, affine_rule, affine_worth
from onebasis.errors import BadAffine, BadBits, TooMany
from onebasis.rules import Rule

PARTS = ["prime", "legs", "number", "start", "ways", "powers", "pairs"]
GOOD = [5, 3, 2, (0, 0, 1), [(1, 0, 1), (0, 1, 0)], [3, 0], [(0, 1)]]


class Affines(Case):
    def test_attributes(self):
        form = Affine(*GOOD)
        self.same([getattr(form, part) for part in PARTS],
                  [5, 3, 2, (0, 0, 1), ((1, 0, 1), (0, 1, 0)), (3, 0), ((0, 1),)])
        self.assertEqual(form, Affine(5, 3, 2, (0, 0, 1), ((1, 0, 1), (0, 1, 0)), (3, 0), ((0, 1),)))
        self.assertEqual(form, Affine(prime=5, legs=3, number=2, start=(0, 0, 1), ways=GOOD[4], powers=[3, 0],
                                      pairs=[(0, 1)]))
        others = [13, 3, 1, (0, 0, 0), [(1, 0, 0), (0, 1, 0)], [3, 1], []]
        for at, thing in enumerate(others):
            if at != 1:
                self.assertNotEqual(form, Affine(*GOOD[:at], thing, *GOOD[at + 1:]))
        self.assertNotEqual(Affine(5, 0, 0, (), [], [], []), Affine(5, 1, 0, (0,), [], [], []))
        self.assertNotEqual(form, tuple(GOOD))
        self.assertNotEqual(form, None)

    def test_each_refusal(self):
        wrong = {
            "prime": ODD_THINGS + [2, 9, 99, 101],
            "legs": [None, True, 3.0, "3", (3,), -1, 61],
            "number": [None, True, 2.0, -1, 5, "2"],
            "start": [None, [0, 0, 1], (0, 0), (0, 0, 1, 0), (0, 0, 2), (0, 0, True), (0, 0, None), "001"],
            "ways": [None, 5, {}, "00", [[1, 0, 1]], [(1, 0)], [(1, 0, 1, 0)], [(0, 0, 0)], [(1, 0, True)], [(1, 0, 2)],
                     [(0, 1, 0), (1, 0, 1)], [(1, 0, 1), (1, 0, 0)], [(1, 1, 0), (0, 1, 0)], [(0, 0, 1)], [None],
                     [(1, 0, 1), (0, 1, 0), (0, 0, 1)]],
            "powers": [None, 5, {}, [3], [3, 0, 0], [3, -1], [4, 0], [3, False], [3, 0.0], "30", [None, 0]],
            "pairs": [None, 5, {}, [(0, 1), (0, 1)], [(1, 0)], [(0, 0)], [(0, 2)], [(-1, 1)], [[0, 1]], [(0, 1, 1)],
                      [(False, 1)], [(0, True)], [0, 1], [(0.0, 1)], [(0,)]],
        }
        for at, part in enumerate(PARTS):
            for thing in wrong[part]:
                self.refuses(BadAffine, part, Affine, *GOOD[:at], thing, *GOOD[at + 1:])
                if part != "pairs" and part not in ("prime", "legs", "number", "start"):
                    self.refuses(BadAffine, part, Affine, *GOOD[:at], thing, *[None] * (6 - at))
        for at, part in enumerate(PARTS):
            self.refuses(BadAffine, part, Affine, *GOOD[:at], *[None] * (7 - at))
        # A start with a 1 at the lead of a way is a start, but then the way is none.
        self.refuses(BadAffine, "ways", Affine, *GOOD[:3], (1, 0, 1), *GOOD[4:])
        # Where two leads are ahead: pairs must ascend.
        three = [5, 3, 1, (0, 0, 0), [(1, 0, 0), (0, 1, 0), (0, 0, 1)], [0, 0, 0]]
        self.refuses(BadAffine, "pairs", Affine, *three, [(0, 2), (0, 1)])
        self.refuses(BadAffine, "pairs", Affine, *three, [(1, 2), (0, 1)])
        self.assertEqual(Affine(*three, [(0, 1), (0, 2), (1, 2)]).pairs, ((0, 1), (0, 2), (1, 2)))
        # With the order 2 powers are 0 and 1 alone; with number 0 start has no 1 and there are no ways.
        self.refuses(BadAffine, "powers", Affine, 7, 1, 1, (0,), [(1,)], [2], [])
        self.refuses(BadAffine, "start", Affine, 7, 1, 0, (1,), [], [], [])
        self.refuses(BadAffine, "ways", Affine, 7, 1, 0, (0,), [(1,)], [0], [])
        self.assertEqual(Affine(7, 1, 0, (0,), [], [], []).number, 0)

    def test_worths(self):
        chance = chance_of(600)
        shares = {True: 0, False: 0}
        for number in range(150):
            prime = (3, 5, 13, 31, 97)[number % 5]
            form = some_affine(chance, prime, chance.randrange(6))
            table = plain_affine_table(form)
            self.same([affine_worth(form, bits) for bits in product((0, 1), repeat=form.legs)], table)
            self.assertEqual(affine_rule(form), Rule(prime, table))
            shares[any(form.pairs) and plain_unit(prime)[1] == 4] += 1
        self.assertGreater(min(shares.values()), 10)

    def test_no_legs_and_eight(self):
        self.assertEqual(affine_rule(Affine(3, 0, 2, (), [], [], [])), Rule(3, [2]))
        self.assertEqual(affine_rule(Affine(97, 2, 0, (0, 0), [], [], [])), Rule(97, [0] * 4))
        chance = chance_of(601)
        for prime in (5, 7):
            form = some_affine(chance, prime, 8, 0)
            rule = affine_rule(form)
            every = list(product((0, 1), repeat=8))
            for _ in range(40):
                at = chance.randrange(256)
                self.assertEqual(rule.table[at], affine_worth(form, every[at]))
        self.refuses(TooMany, 8, affine_rule, some_affine(chance, 5, 9))

    def test_sixty_legs(self):
        chance = chance_of(602)
        for prime in (5, 7, 97):
            ways = [tuple(1 if leg == k or (leg > 9 and chance.randrange(2)) else 0 for leg in range(60)) for k in range(10)]
            start = (0,) * 10 + tuple(chance.randrange(2) for _ in range(50))
            order = plain_unit(prime)[1]
            form = Affine(prime, 60, 2, start, ways, [chance.randrange(order) for _ in ways],
                          [(j, k) for j in range(10) for k in range(j + 1, 10) if chance.randrange(2)])
            for _ in range(10):
                some = [way for way in ways if chance.randrange(2)]
                bits = added(start, *some)
                self.assertEqual(affine_worth(form, bits), plain_affine_worth(form, bits))
                self.assertNotEqual(affine_worth(form, bits), 0)
                other = bits[:40] + (1 - bits[40],) + bits[41:]
                self.assertEqual(affine_worth(form, other), plain_affine_worth(form, other))
            every = [tuple(1 if leg == k else 0 for leg in range(60)) for k in range(60)]
            full = Affine(prime, 60, 3, (0,) * 60, every, [order - 1] * 60, [(j, j + 1) for j in range(59)])
            number = plain_unit(prime)[0]
            self.assertEqual(affine_worth(full, (1,) * 60), 3 * number ** (60 * (order - 1)) * (-1) ** 59 % prime)
            self.assertEqual(affine_worth(full, (0,) * 60), 3)

    def test_refused(self):
        form = Affine(*GOOD)
        for thing in ODD_THINGS + [Rule(5, [1])]:
            self.refuses(BadAffine, None, affine_worth, thing, None)
            self.refuses(BadAffine, None, affine_rule, thing)
        for bits in (None, (), (0, 0), (0, 0, 1, 0), [0, 0, 1], (0, 0, 2), (0, 0, True), "001"):
            self.refuses(BadBits, None, affine_worth, form, bits)
