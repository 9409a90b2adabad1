"""Papers that the sum of a web of affine rules is 0.

Lots of ties are told as masks, the first tie lowest.
"""

from onebasis.affinesums import affine_forms, affine_phase
from onebasis.checks import are_ascending, is_from, is_tuple_of
from onebasis.errors import BadWeb
from onebasis.legwork import places_in
from onebasis.parities import kernel_masks, parity
from onebasis.phases import tie_legs
from onebasis.webs import want_web


def closed_forms(web):
    """The affine forms of a web without outer legs."""
    want_web(web)
    if web.outer:
        raise BadWeb("outer")
    return affine_forms(web)


def zero_paper(web):
    """A paper that the sum of a web of affine rules is 0; None if it is not."""
    forms = closed_forms(web)
    for place, form in enumerate(forms):
        if form.number == 0:
            return ("rule", place)
    base, ways = masks_of_ties(web, forms)
    for lot in kernel_masks(ways, len(web.ties)):
        if parity(lot & base):
            return ("odd", tuple(places_in(lot)))
    phase, masks = tied_phase(web, forms)
    for taken in kernel_masks(paired_masks(phase), len(phase.powers)):
        if sign_of(phase, taken):
            return ("signs", tuple([k for k, mask in enumerate(masks) if parity(mask & taken)]))
    return None


def masks_of_ties(web, forms):
    """The lot of ties with an odd number of ones at the starts of all forms, and for each way the one at the way."""
    numbers = {leg: k for k, tie in enumerate(web.ties) for leg in tie}
    base, ways = 0, []
    for place, form in enumerate(forms):
        base ^= lot_at(numbers, place, form.start)
        ways.extend([lot_at(numbers, place, way) for way in form.ways])
    return (base, ways)


def lot_at(numbers, place, bits):
    """The lot of the ties with an odd number of ones at the place's legs that have these bits."""
    lot = 0
    for k, bit in enumerate(bits):
        if bit:
            lot ^= 1 << numbers[(place, k)]
    return lot


def tied_phase(web, forms):
    """The phase of all terms that are not 0, and for each tie the mask of the parameters that its bit hangs on."""
    phase = affine_phase(web.prime, forms)
    for one, other in web.ties:
        tie_legs(phase, one, other)
        del phase.legs[other]
    return (phase, [phase.legs[one][1] for one, _ in web.ties])


def paired_masks(phase):
    """For each parameter the mask of those by which turning it changes the power of the unit that its turning adds."""
    masks = []
    for k, mask in enumerate(phase.signs):
        own = phase.powers[k] & 1 if phase.order == 4 else 0
        masks.append(mask | own << k)
    return masks


def sign_of(phase, taken):
    """Whether the choice at which just these parameters are 1 is worth the negative of that at which all are 0."""
    every = places_in(taken)
    power = sum([phase.powers[k] for k in every])
    both = sum([1 for j in every for k in every if j < k and phase.signs[j] >> k & 1])
    return (power + both * (phase.order // 2)) % phase.order == phase.order // 2


def is_zero_paper(web, paper):
    """Whether any value is a paper that the sum of a web of affine rules is 0."""
    forms = closed_forms(web)
    if not is_tuple_of(paper, 2):
        return False
    word, told = paper
    if word == "rule":
        return is_from(told, 0, len(forms) - 1) and forms[told].number == 0
    if not isinstance(told, tuple) or not are_ascending(told, len(web.ties) - 1):
        return False
    lot = sum([1 << k for k in told])
    base, ways = masks_of_ties(web, forms)
    if word == "odd":
        whole = all([form.number for form in forms])
        return whole and parity(lot & base) == 1 and not any([parity(lot & way) for way in ways])
    return word == "signs" and is_turning(web, forms, lot)


def is_turning(web, forms, lot):
    """Whether each term, the bits of these ties turned, is its negative."""
    phase, masks = tied_phase(web, forms)
    if phase.number == 0:
        return True
    # Each parameter that is left is the bit of its own way's lead still, and so of a tie.
    leads = {}
    for k, mask in enumerate(masks):
        leads.setdefault(mask, k)
    taken = sum([1 << k for k in places_in(phase.left) if lot >> leads[1 << k] & 1])
    if any([parity(mask & taken) != lot >> k & 1 for k, mask in enumerate(masks)]):
        return False
    return sign_of(phase, taken) and not any([parity(mask & taken) for mask in paired_masks(phase)])
