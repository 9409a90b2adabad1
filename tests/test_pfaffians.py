from formhelpers import plain_pfaffian, some_skew
from helpers import ODD_THINGS, Case, chance_of

from onebasis.errors import BadForm
from onebasis.pfaffians import pfaffian


class Pfaffians(Case):
    def test_against_the_sum(self):
        chance = chance_of(210)
        for prime in (3, 7, 97):
            for many in range(9):
                for zeros in (0, 3, 5):
                    table = some_skew(chance, prime, many, zeros)
                    self.same(pfaffian(prime, table), plain_pfaffian(table, prime))

    def test_by_hand(self):
        self.same(pfaffian(3, []), 1)
        self.same(pfaffian(3, [[0]]), 0)
        self.same(pfaffian(7, [[0, 3], [4, 0]]), 3)
        self.same(pfaffian(7, ((0, 0, 1, 0), (0, 0, 0, 1), (6, 0, 0, 0), (0, 6, 0, 0))), 6)

    def test_four_hundred(self):
        # A row of 400 places, each tied to the next one by 1, has one pairing; a further one from 0 to 399 makes two.
        table = [[0] * 400 for _ in range(400)]
        for k in range(399):
            table[k][k + 1], table[k + 1][k] = 1, 2
        self.assertEqual(pfaffian(3, table), 1)
        table[0][399], table[399][0] = 1, 2
        self.assertEqual(pfaffian(3, table), 2)
        self.refuses(BadForm, "table", pfaffian, 3, [[0] * 401 for _ in range(401)])

    def test_dense_table(self):
        # The Pfaffian of the numbers x[i] * y[j] - x[j] * y[i] is 0 from four rows on; shifted rows keep it.
        chance = chance_of(211)
        table = some_skew(chance, 97, 60)
        shifted = [list(row) for row in table]
        for k in range(60):
            shifted[5][k] = (shifted[5][k] + 3 * shifted[9][k]) % 97
        for k in range(60):
            shifted[k][5] = (shifted[k][5] + 3 * shifted[k][9]) % 97
        self.assertEqual(pfaffian(97, shifted), pfaffian(97, table))
        swapped = [list(row) for row in table]
        swapped[2], swapped[7] = swapped[7], swapped[2]
        for row in swapped:
            row[2], row[7] = row[7], row[2]
        self.assertEqual(pfaffian(97, swapped), -pfaffian(97, table) % 97)

    def test_refused(self):
        for thing in ODD_THINGS + [2, 9, 99]:
            self.refuses(BadForm, "prime", pfaffian, thing, None)
        for thing in (None, 5, [0], [[1]], [[0, 1], [1, 0]], [[0, 1], [2]], [[0, 1, 0], [2, 0, 0]], [[0, 1], [-1, 0]],
                      [[0, True], [2, 0]], [[False]], [[0, 3], [0, 0]], "", {}, [[0, 1.0], [2, 0]], [None]):
            self.refuses(BadForm, "table", pfaffian, 3, thing)
