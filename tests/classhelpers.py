"""Affine forms, product forms and their rules, made up and worked out by their words, for the tests."""

from itertools import product

from onebasis.affine import Affine
from onebasis.products import Product
from onebasis.rules import Rule


def plain_unit(prime):
    """The unit of a prime and its order, by trying."""
    for number in range(prime):
        if number ** 2 % prime == prime - 1:
            return number, 4
    return prime - 1, 2


def added(*tuples):
    """The sum of tuples of bits, place by place."""
    return tuple(sum(bits) % 2 for bits in zip(*tuples))


def plain_affine_worth(form, bits):
    """The worth of an affine form, by going through all lots of its ways."""
    number = plain_unit(form.prime)[0]
    total = 0
    for taken in product((0, 1), repeat=len(form.ways)):
        some = [way for way, take in zip(form.ways, taken) if take]
        if added(form.start, *some) == tuple(bits):
            total += 1
            power = sum(power for power, take in zip(form.powers, taken) if take)
            signs = sum(1 for j, k in form.pairs if taken[j] and taken[k])
            worth = form.number * number ** power * (-1) ** signs % form.prime
    assert total <= 1
    return worth if total else 0


def plain_affine_table(form):
    """The table of an affine form, by its words."""
    return [plain_affine_worth(form, bits) for bits in product((0, 1), repeat=form.legs)]


def plain_product_worth(form, bits):
    """The worth of a product form, by its words."""
    number = form.number
    for legs, own, share in form.bunches:
        here = tuple(bits[leg] for leg in legs)
        if here == own:
            continue
        number *= share if here == tuple(1 - bit for bit in own) else 0
    return number % form.prime


def plain_product_table(form):
    """The table of a product form, by its words."""
    return [plain_product_worth(form, bits) for bits in product((0, 1), repeat=form.legs)]


def some_affine(chance, prime, legs, zero=0.05):
    """A made-up affine form, now and then the one that is 0 everywhere."""
    if chance.random() < zero:
        return Affine(prime, legs, 0, (0,) * legs, [], [], [])
    leads = [leg for leg in range(legs) if chance.randrange(3)]
    ways = []
    for lead in leads:
        ways.append(tuple(1 if leg == lead else 0 if leg < lead or leg in leads else chance.randrange(2)
                          for leg in range(legs)))
    start = tuple(0 if leg in leads else chance.randrange(2) for leg in range(legs))
    order = plain_unit(prime)[1]
    powers = [chance.randrange(order) for _ in ways]
    pairs = [(j, k) for j in range(len(ways)) for k in range(j + 1, len(ways)) if chance.randrange(2)]
    return Affine(prime, legs, chance.randrange(1, prime), start, ways, powers, pairs)


def some_affine_rule(chance, prime, legs):
    """The rule of a made-up affine form."""
    return Rule(prime, plain_affine_table(some_affine(chance, prime, legs, 0.01)))


def some_product(chance, prime, legs, zero=0.05):
    """A made-up product form, now and then the one that is 0 everywhere."""
    if chance.random() < zero:
        return Product(prime, 0, [((leg,), (0,), 0) for leg in range(legs)])
    lots = [[] for _ in range(legs)]
    for leg in range(legs):
        lots[chance.randrange(legs)].append(leg)
    bunches = []
    for lot in lots:
        if lot and chance.randrange(5) == 0:
            bunches += [((leg,), (chance.randrange(2),), 0) for leg in lot]
        elif lot:
            bits = (0,) + tuple(chance.randrange(2) for _ in lot[1:])
            bunches.append((tuple(lot), bits, chance.randrange(1, prime)))
    return Product(prime, chance.randrange(1, prime), sorted(bunches))


def some_product_rule(chance, prime, legs):
    """The rule of a made-up product form."""
    return Rule(prime, plain_product_table(some_product(chance, prime, legs, 0.01)))
