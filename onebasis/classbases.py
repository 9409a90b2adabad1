"""Bases under which all rules of a lot are affine, or product rules, and sums of webs by them."""

from onebasis.affine import affine_rule
from onebasis.affinesums import affine_sum
from onebasis.alike import all_bases
from onebasis.bases import Basis, determinant
from onebasis.basissums import places_right, rules_at, taken_back
from onebasis.checks import is_prime
from onebasis.errors import BadRule, TooMany
from onebasis.fields import inverse_of
from onebasis.foundaffine import is_affine
from onebasis.foundproducts import is_product_rule
from onebasis.lots import fitting_bases, want_lot
from onebasis.products import product_rule
from onebasis.productsums import product_sum
from onebasis.sided import side_changed, want_sides
from onebasis.units import unit
from onebasis.webs import want_web

GREATEST_KINDRED = 13


def want_small(prime):
    """Refuses a prime for which there are too many bases."""
    if prime > GREATEST_KINDRED:
        raise TooMany(GREATEST_KINDRED)


def led_rows(prime):
    """The rows of all bases whose first entry that is not 0 is 1, ascending."""
    every = range(prime)
    pairs = [(c, d) for c in every for d in every]
    firsts = [(0, 1)] + [(1, b) for b in every]
    return [(first, second) for first in firsts for second in pairs if determinant((first, second)) % prime]


def kindred_rows(prime, rows):
    """The rows of the bases that one step leads to, times the number that makes the first entry that is not 0 a 1."""
    number = unit(prime)[0]
    (a, b), (c, d) = rows
    steps = [((a, b * number), (c, d * number)), ((b, a), (d, c)), ((a + b, a - b), (c + d, c - d))]
    found = []
    for first, second in steps:
        told = [x % prime for x in first + second]
        inverse = inverse_of(prime, told[0] if told[0] else told[1])
        told = [x * inverse % prime for x in told]
        found.append(((told[0], told[1]), (told[2], told[3])))
    return found


def affine_kinds(prime):
    """The least basis of each lot of kindred ones, ascending by rows."""
    if not is_prime(prime):
        raise BadRule("prime")
    want_small(prime)
    met = {}
    kinds = []
    for rows in led_rows(prime):
        if rows not in met:
            kinds.append(Basis(prime, rows))
            met[rows] = True
            reached = [rows]
            while reached:
                for further in kindred_rows(prime, reached.pop()):
                    if further not in met:
                        met[further] = True
                        reached.append(further)
    return kinds


def affine_bases(prime, lefts, rights):
    """Those of affine_kinds under which all rules of the lot are affine."""
    want_lot(prime, lefts, rights)
    return fitting_bases(affine_kinds(prime), lefts, rights, is_affine)


def product_bases(prime, lefts, rights):
    """Those of all plain bases under which all rules of the lot are product rules."""
    want_lot(prime, lefts, rights)
    want_small(prime)
    return fitting_bases(all_bases(prime), lefts, rights, is_product_rule)


def class_basis_sum(web, lefts):
    """The word of a class, its first basis for the web, and the sum of the web; None without a basis."""
    want_web(web)
    want_sides(web, lefts)
    rules, others = rules_at(web, lefts), rules_at(web, places_right(web, lefts))
    for basis in affine_bases(web.prime, rules, others)[:1]:
        told = affine_rule(affine_sum(side_changed(web, lefts, basis)))
        return ("affine", basis, taken_back(web, lefts, basis, told))
    for basis in product_bases(web.prime, rules, others)[:1]:
        told = product_rule(product_sum(side_changed(web, lefts, basis)))
        return ("product", basis, taken_back(web, lefts, basis, told))
    return None
