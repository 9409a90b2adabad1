"""Sums over choices of bits of a number times powers of the unit, which tell affine rules of any number of legs.

A choice has a bit for each parameter. Parameters have powers of the unit, and those that are paired, both being 1, the
factor -1; signs tells for each parameter the mask of those that it is paired with. A leg has a bit, to which the parity
of the parameters in its mask is added. Masks have the first parameter lowest.
"""

from onebasis.affine import Affine, zero_affine
from onebasis.fields import power_of
from onebasis.legwork import places_in
from onebasis.parities import mask_of_bits, top_place
from onebasis.units import unit


class Phase:
    """The sum, over all choices at which the legs have told bits, of what the choices are worth."""

    def __init__(self, prime):
        self.prime = prime
        self.unit, self.order = unit(prime)
        self.number = 1
        self.powers = []
        self.signs = []
        self.legs = {}
        self.left = 0
        # The parameters that affine forms brought; those behind them were made to be the bits of legs.
        self.brought = 0


def new_parameter(phase, power):
    """The number of one more parameter, paired with none."""
    phase.powers.append(power)
    phase.signs.append(0)
    number = len(phase.powers) - 1
    phase.left = phase.left | 1 << number
    return number


def put_in(phase, form, names):
    """Puts an affine form in, its legs under these names."""
    first = phase.brought
    phase.number = phase.number * form.number % phase.prime
    for power in form.powers:
        phase.brought = new_parameter(phase, power) + 1
    for j, k in form.pairs:
        pair_with(phase, first + j, 1 << (first + k))
    for leg, name in enumerate(names):
        phase.legs[name] = (form.start[leg], mask_of_bits([way[leg] for way in form.ways]) << first)


def add_power(phase, at, power):
    """Times the unit to this power where the parameter is 1."""
    phase.powers[at] = (phase.powers[at] + power) % phase.order


def pair_with(phase, at, mask):
    """Times -1 where the parameter is 1 and the parity of the mask is odd."""
    for k in places_in(mask):
        if k == at:
            add_power(phase, at, phase.order // 2)
        else:
            phase.signs[at] ^= 1 << k
            phase.signs[k] ^= 1 << at


def add_parity(phase, power, mask):
    """Times the unit to this power where the parity of the mask is odd."""
    for k in places_in(mask):
        add_power(phase, k, power)
        # A parity is the sum of the bits less twice the products of any two, modulo 4.
        if phase.order == 4 and power & 1:
            phase.signs[k] ^= mask ^ 1 << k


def taken_away(phase, gone):
    """Takes a parameter away; the pair of its power and of the mask of those that it was paired with."""
    power, paired = phase.powers[gone], phase.signs[gone]
    for k in places_in(paired):
        phase.signs[k] ^= 1 << gone
    phase.powers[gone], phase.signs[gone] = 0, 0
    phase.left ^= 1 << gone
    return (power, paired)


def substitute(phase, gone, bit, mask):
    """Puts the bit and the parity of the mask, added, in the place of a parameter."""
    power, paired = taken_away(phase, gone)
    if bit:
        phase.number = phase.number * power_of(phase.unit, power) % phase.prime
        power = -power % phase.order
    add_parity(phase, power, mask)
    for k in places_in(paired):
        if bit:
            add_power(phase, k, phase.order // 2)
        pair_with(phase, k, mask)
    fresh = {}
    for name, (own, told) in phase.legs.items():
        fresh[name] = (own ^ bit, told ^ 1 << gone ^ mask) if told >> gone & 1 else (own, told)
    phase.legs = fresh


def restrict(phase, bit, mask):
    """Lets only those choices be at which the parity of the mask is the bit."""
    if mask == 0:
        phase.number = 0 if bit else phase.number
        return
    # Of the parameters that are bits of legs the last one goes, so that those ahead stay the bits of their legs.
    low = top_place(mask & -mask)
    gone = low if low < phase.brought else top_place(mask)
    substitute(phase, gone, bit, mask ^ 1 << gone)


def sum_out(phase, gone):
    """Sums over both bits of a parameter that no leg hangs on."""
    power, paired = taken_away(phase, gone)
    share = power_of(phase.unit, power)
    if power & 1 and phase.order == 4:
        # 1 less the unit is 1 and the unit, added, times the unit to the power 3.
        phase.number = phase.number * (1 + share) % phase.prime
        add_parity(phase, -power % phase.order, paired)
    else:
        phase.number = phase.number * 2 % phase.prime
        restrict(phase, 1 if power else 0, paired)


def tie_legs(phase, one, other):
    """Lets only those choices be at which both legs have one bit."""
    bit, mask = phase.legs[one]
    further, more = phase.legs[other]
    restrict(phase, bit ^ further, mask ^ more)


def close_legs(phase, one, other):
    """Ties two legs, which are legs no more."""
    tie_legs(phase, one, other)
    del phase.legs[one], phase.legs[other]


def lead_legs(phase, names):
    """Makes each leg, in this sequence, a parameter of its own, or hang on such ones of legs ahead of it."""
    for name in names:
        bit, mask = phase.legs[name]
        old = mask & ((1 << phase.brought) - 1)
        if old:
            gone = top_place(old)
            number = new_parameter(phase, 0)
            substitute(phase, gone, bit, mask ^ 1 << gone | 1 << number)


def affine_of(phase, names):
    """The affine form with these legs, which are all that are left."""
    lead_legs(phase, names)
    old = phase.left & ((1 << phase.brought) - 1)
    while old:
        sum_out(phase, top_place(old))
        old = phase.left & ((1 << phase.brought) - 1)
    if phase.number == 0:
        return zero_affine(phase.prime, len(names))
    every = places_in(phase.left)
    start = tuple([phase.legs[name][0] for name in names])
    ways = [tuple([phase.legs[name][1] >> k & 1 for name in names]) for k in every]
    pairs = [(i, j) for i, one in enumerate(every) for j, other in enumerate(every)
             if i < j and phase.signs[one] >> other & 1]
    return Affine(phase.prime, len(names), phase.number, start, ways, [phase.powers[k] for k in every], pairs)
