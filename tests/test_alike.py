from itertools import product

from helpers import ODD_THINGS, Case

from onebasis.alike import all_bases, is_alike, plain_basis
from onebasis.bases import Basis
from onebasis.errors import BadBasis


def columns(basis):
    (a, b), (c, d) = basis.rows
    return ((a, c), (b, d))


def every_basis(prime):
    for a, b, c, d in product(range(prime), repeat=4):
        if (a * d - b * c) % prime:
            yield Basis(prime, [[a, b], [c, d]])


def on(prime, pair, point):
    return any(tuple(x * k % prime for x in point) == pair for k in range(1, prime))


class Alike(Case):
    def test_all_bases(self):
        for prime in (3, 5, 97):
            points = [(0, 1)] + [(1, t) for t in range(prime)]
            wanted = sorted((one, other) for one in points for other in points if one < other)
            self.same([columns(basis) for basis in all_bases(prime)], wanted)
            self.assertEqual(len(wanted), prime * (prime + 1) // 2)
        self.assertIsNot(all_bases(3), all_bases(3))
        for thing in ODD_THINGS + [2, 9, 99]:
            self.refuses(BadBasis, "prime", all_bases, thing)

    def test_plain_basis(self):
        for prime in (3, 5):
            plain = all_bases(prime)
            for basis in every_basis(prime):
                one, other = columns(basis)
                fitting = []
                for told in plain:
                    first, second = columns(told)
                    if (on(prime, one, first) and on(prime, other, second)) or (
                            on(prime, one, second) and on(prime, other, first)):
                        fitting.append(told)
                self.assertEqual([plain_basis(basis)], fitting)
        self.assertEqual(plain_basis(Basis(7, [[3, 0], [6, 5]])), Basis(7, [[0, 1], [1, 2]]))

    def test_is_alike(self):
        plain = all_bases(5)
        for k, one in enumerate(plain):
            (a, b), (c, d) = one.rows
            self.assertIs(is_alike(one, Basis(5, [[3 * b % 5, 2 * a % 5], [3 * d % 5, 2 * c % 5]])), True)
            for j, other in enumerate(plain):
                self.assertIs(is_alike(one, other), k == j)

    def test_refused(self):
        three, five = Basis(3, [[1, 0], [0, 1]]), Basis(5, [[1, 0], [0, 1]])
        self.refuses(BadBasis, "other", is_alike, three, five)
        for thing in ODD_THINGS:
            self.refuses(BadBasis, None, plain_basis, thing)
            self.refuses(BadBasis, None, is_alike, thing, three)
            self.refuses(BadBasis, None, is_alike, three, thing)
