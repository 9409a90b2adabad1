"""Classes of rules whose webs have sums in few steps, flat or not."""

from onebasis.affine import affine_rule
from onebasis.affinesums import affine_sum
from onebasis.errors import BadRule, NoClass
from onebasis.foundaffine import is_affine
from onebasis.foundforms import has_form
from onebasis.foundproducts import is_product_rule
from onebasis.products import product_rule
from onebasis.productsums import product_sum
from onebasis.shorts import is_short, lots_beside, short_sum
from onebasis.webs import are_rules_of_one_prime, part, pieces


def classes(rules):
    """The ascending list of the words of the classes that all of these rules are of."""
    if not are_rules_of_one_prime(rules):
        raise BadRule("rules")
    found = []
    if all([is_affine(rule) for rule in rules]):
        found.append("affine")
    if all([has_form(rule) for rule in rules]):
        found.append("form")
    if all([is_product_rule(rule) for rule in rules]):
        found.append("product")
    if all([is_short(rule) for rule in rules]):
        found.append("short")
    return found


def class_sum(web):
    """The sum of a web each of whose pieces is of one class."""
    lots = []
    for places in pieces(web):
        piece = part(web, places)
        legs = [(places[place], k) for place, k in piece.outer]
        lots.append((legs, piece_sum(piece, places[0])))
    return lots_beside(web.prime, 1, lots, web.outer)


def piece_sum(piece, place):
    """The sum of a piece whose rules are all affine, or all product rules, or all short; place is its least one."""
    if all([is_affine(rule) for rule in piece.rules]):
        return affine_rule(affine_sum(piece))
    if all([is_product_rule(rule) for rule in piece.rules]):
        return product_rule(product_sum(piece))
    if all([is_short(rule) for rule in piece.rules]):
        return short_sum(piece)
    raise NoClass(place)
