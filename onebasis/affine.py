"""Affine forms: rules that are not 0 at sums of ways, where their worths are a number times powers of the unit."""

from onebasis.checks import MOST_LEGS, are_bits, is_field_number, is_from, is_list, is_prime, is_tuple_of
from onebasis.errors import BadAffine, BadBits, TooMany
from onebasis.fields import power_of
from onebasis.legwork import bits_number
from onebasis.parities import parity
from onebasis.rules import Rule
from onebasis.units import unit

MOST_AFFINE_LEGS = 60


class Affine:
    """A number, a start, ways with powers, and pairs of ways, over the field of a prime."""

    def __init__(self, prime, legs, number, start, ways, powers, pairs):
        if not is_prime(prime):
            raise BadAffine("prime")
        if not is_from(legs, 0, MOST_AFFINE_LEGS):
            raise BadAffine("legs")
        if not is_field_number(prime, number):
            raise BadAffine("number")
        if not are_bits(start, legs) or (number == 0 and any(start)):
            raise BadAffine("start")
        if not are_ways(start, ways) or (number == 0 and len(ways) > 0):
            raise BadAffine("ways")
        order = unit(prime)[1]
        if not is_list(powers) or len(powers) != len(ways) or not all([is_from(x, 0, order - 1) for x in powers]):
            raise BadAffine("powers")
        if not are_pairs(len(ways), pairs):
            raise BadAffine("pairs")
        self.prime = prime
        self.legs = legs
        self.number = number
        self.start = tuple(start)
        self.ways = tuple(ways)
        self.powers = tuple(powers)
        self.pairs = tuple(pairs)

    def __eq__(self, other):
        if not isinstance(other, Affine) or self.prime != other.prime or self.legs != other.legs:
            return False
        if self.number != other.number or self.start != other.start or self.ways != other.ways:
            return False
        return self.powers == other.powers and self.pairs == other.pairs


def are_ways(start, things):
    """Whether it is a list of tuples of bits, each leading further right than the one ahead, alone with its lead."""
    if not is_list(things) or not all([are_bits(way, len(start)) and any(way) for way in things]):
        return False
    leads = [way.index(1) for way in things]
    if not all([leads[k] < leads[k + 1] for k in range(len(leads) - 1)]):
        return False
    return all([start[lead] == 0 and sum([way[lead] for way in things]) == 1 for lead in leads])


def are_pairs(many, things):
    """Whether it is an ascending list of pairs of numbers below many, the lesser one first, no two alike."""
    if not is_list(things) or not all([is_tuple_of(pair, 2) and is_from(pair[1], 0, many - 1) for pair in things]):
        return False
    if not all([is_from(pair[0], 0, pair[1] - 1) for pair in things]):
        return False
    return all([things[k] < things[k + 1] for k in range(len(things) - 1)])


def want_affine(form):
    """Refuses what is no Affine."""
    if not isinstance(form, Affine):
        raise BadAffine(None)


def zero_affine(prime, legs):
    """The affine form that is 0 at all bits."""
    return Affine(prime, legs, 0, (0,) * legs, [], [], [])


def affine_worth(form, bits):
    """The number of the affine form at a tuple of bits."""
    want_affine(form)
    if not are_bits(bits, form.legs):
        raise BadBits("as many bits as legs are wanted")
    # Each way has its lead for itself, so the bits there tell which ways are taken.
    taken = [bits[way.index(1)] for way in form.ways]
    for leg, bit in enumerate(form.start):
        if (bit + sum([way[leg] for way, take in zip(form.ways, taken) if take]) - bits[leg]) & 1:
            return 0
    number, order = unit(form.prime)
    power = sum([power for power, take in zip(form.powers, taken) if take])
    power += order // 2 * sum([1 for j, k in form.pairs if taken[j] and taken[k]])
    return form.number * power_of(number, power % order) % form.prime


def affine_rule(form):
    """The rule with the worths of the affine form."""
    want_affine(form)
    if form.legs > MOST_LEGS:
        raise TooMany(MOST_LEGS)
    number = unit(form.prime)[0]
    places, worths = [bits_number(form.start)], [form.number]
    # Both lists have an item for each choice of the ways so far, told by its number, the first way lowest.
    for k, way in enumerate(form.ways):
        mask = sum([1 << j for j, other in form.pairs if other == k])
        share = power_of(number, form.powers[k])
        more = [worth * share * (-1 if parity(at & mask) else 1) for at, worth in enumerate(worths)]
        places = places + [place ^ bits_number(way) for place in places]
        worths = worths + [worth % form.prime for worth in more]
    table = [0] * (1 << form.legs)
    for place, worth in zip(places, worths):
        table[place] = worth
    return Rule(form.prime, table)
