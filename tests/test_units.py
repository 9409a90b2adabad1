from classhelpers import plain_unit
from helpers import ODD_THINGS, Case

from onebasis.errors import BadRule
from onebasis.units import unit

PRIMES = [3, 5, 7, 11, 13, 17, 19, 23, 29, 31, 37, 41, 43, 47, 53, 59, 61, 67, 71, 73, 79, 83, 89, 97]


class Units(Case):
    def test_each_prime(self):
        for prime in PRIMES:
            number, order = unit(prime)
            self.same(unit(prime), plain_unit(prime))
            self.assertEqual([k for k in range(1, 5) if number ** k % prime == 1][0], order)
            self.assertEqual(order, 4 if prime % 4 == 1 else 2)
        self.same((unit(5), unit(97), unit(3)), ((2, 4), (22, 4), (2, 2)))

    def test_refused(self):
        for thing in ODD_THINGS + [0, 1, 2, 4, 9, 91, 99, 101]:
            self.refuses(BadRule, "prime", unit, thing)
