"""Sums of flat webs whose rules have forms, tie by tie."""

from onebasis.bundles import closed_bundle, last_bundles, outer_row
from onebasis.foundforms import form_of
from onebasis.laying import laid_skew, want_line, want_short
from onebasis.normals import form_of_skew, skew_of
from onebasis.rules import Rule
from onebasis.surfaces import other_ends
from onebasis.webforms import forms_of, want_flat


def closings(web, line):
    """The states of closing, from all legs of the line to the outer legs alone."""
    want_line(web, line)
    bundle = (list(line), laid_skew(web, line))
    want_short(line)
    ends = other_ends(web.ties)
    states = [state_of(bundle)]
    for _ in web.ties:
        legs = bundle[0]
        fitting = [k for k in range(len(legs) - 1) if ends.get(legs[k]) == legs[k + 1]]
        bundle = closed_bundle(bundle, fitting[0], {})
        states.append(state_of(bundle))
    return states


def state_of(bundle):
    """The pair of the tuple of the legs and of a form with these legs."""
    return (tuple(bundle[0]), form_of_skew(bundle[1]))


def flat_sum(web):
    """The sum of a flat web of rules with forms."""
    want_flat(web)
    bundles = []
    for place, form in enumerate(forms_of(web)):
        bundles.append(([(place, k) for k in range(form.legs)], skew_of(form)))
    return Rule(web.prime, outer_row(web.prime, last_bundles(bundles, web.ties, {}), web.outer))


def sum_form(web):
    """The normal form of the sum of a flat web of rules with forms."""
    return form_of(flat_sum(web))
