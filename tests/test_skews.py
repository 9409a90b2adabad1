from itertools import product

from formhelpers import plain_worth, some_form
from helpers import Case, chance_of

from onebasis.skews import (Skew, beside_skews, closed_skew, remarked, single_skew, skew_worths, turned_skew, zero_skew)


def skew_of(form):
    marks = [1 if k in form.flips else 0 for k in range(form.legs)]
    return Skew(form.prime, form.number, marks, [list(row) for row in form.table])


def tuples(many):
    return list(product((0, 1), repeat=many))


class Skews(Case):
    def plain(self, form):
        return [plain_worth(form, bits) for bits in tuples(form.legs)]

    def fits(self, skew):
        """The table is skew, and there is a mark for each leg."""
        many = len(skew.marks)
        self.assertEqual([len(row) for row in skew.table], [many] * many)
        for i, j in product(range(many), repeat=2):
            self.assertEqual((skew.table[i][j] + skew.table[j][i]) % skew.prime, 0)
        self.assertFalse(any(skew.table[k][k] for k in range(many)))

    def test_made(self):
        self.assertEqual(skew_worths(zero_skew(7, 3)), [0] * 8)
        for many in range(5):
            told = single_skew(7, many)
            self.fits(told)
            self.assertEqual(skew_worths(told), [int(sum(bits) == 1) for bits in tuples(many)])

    def test_turned_and_beside(self):
        chance = chance_of(1)
        for _ in range(40):
            form = some_form(chance, 7, chance.randrange(6), chance.choice((0, 4)))
            worths, n = self.plain(form), form.legs
            self.assertEqual(skew_worths(skew_of(form)), worths)
            for many in range(n + 1):
                told = turned_skew(skew_of(form), many)
                self.fits(told)
                wanted = [plain_worth(form, bits[n - many:] + bits[:n - many]) for bits in tuples(n)]
                self.assertEqual(skew_worths(told), wanted)
            other = some_form(chance, 7, chance.randrange(4))
            told = beside_skews(skew_of(form), skew_of(other))
            self.fits(told)
            self.assertEqual(skew_worths(told), [x * y % 7 for x in worths for y in self.plain(other)])

    def test_remarked(self):
        chance = chance_of(2)
        for _ in range(60):
            form = some_form(chance, 7, chance.randrange(2, 7), chance.choice((0, 4)))
            for one in range(form.legs):
                for other in range(one + 1, form.legs):
                    if form.table[one][other]:
                        told = remarked(skew_of(form), one, other)
                        self.fits(told)
                        marks = [int((k in form.flips) != (k in (one, other))) for k in range(form.legs)]
                        self.assertEqual(told.marks, marks)
                        self.assertEqual(skew_worths(told), self.plain(form))

    def test_closed(self):
        chance = chance_of(3)
        for number in range(400):
            prime = (3, 7)[number % 2]
            form = some_form(chance, prime, chance.randrange(2, 7), chance.choice((0, 3, 5)))
            leg, weight = chance.randrange(form.legs - 1), chance.randrange(prime)
            told = closed_skew(skew_of(form), leg, weight)
            self.fits(told)
            wanted = []
            for bits in tuples(form.legs - 2):
                zeros = plain_worth(form, bits[:leg] + (0, 0) + bits[leg:])
                ones = plain_worth(form, bits[:leg] + (1, 1) + bits[leg:])
                wanted.append((zeros + weight * ones) % prime)
            self.assertEqual(skew_worths(told), wanted)
