"""Bits at legs, read as numbers with the first leg highest, and legs going round."""


def bits_number(bits):
    """The bits read as a number with the first one highest."""
    out = 0
    for bit in bits:
        out = out * 2 + bit
    return out


def bits_of(number, many):
    """The tuple of this many bits that bits_number reads as the number."""
    return tuple([number >> (many - 1 - k) & 1 for k in range(many)])


def leg_mask(many, leg):
    """What the bit 1 at one of many legs adds to the number of the bits."""
    return 1 << (many - 1 - leg)


def sums_of(masks, base):
    """For all bits, one for each mask, ascending: base and the masks whose bit is 1."""
    out = [base]
    for mask in masks:
        out = [number + more for number in out for more in (0, mask)]
    return out


def leg_sums(many, legs, base):
    """For all bits at these legs, ascending: the number of the bits, base being that of the others."""
    return sums_of([leg_mask(many, leg) for leg in legs], base)


def behind(many, leg):
    """The other legs, going round from behind leg up to ahead of it."""
    return [(leg + 1 + k) % many for k in range(many - 1)]


def numbering(spots):
    """For lists of what stands at each place: the dict from each thing there to its (place, leg)."""
    return {thing: (place, k) for place, spot in enumerate(spots) for k, thing in enumerate(spot)}


def spots_of(counts):
    """The list, for each place, of its legs as pairs (place, leg)."""
    return [[(place, k) for k in range(many)] for place, many in enumerate(counts)]


def places_in(lot):
    """The places whose bits, from the lowest one on, are 1 in the number of a lot."""
    return [k for k in range(lot.bit_length()) if lot >> k & 1]
