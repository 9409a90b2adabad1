"""Masks as rows of bits, added place by place modulo 2."""


def parity(mask):
    """Whether the mask has an odd number of ones, as a bit."""
    width = 1
    while mask >> width:
        mask ^= mask >> width
        width = width * 2
    return mask & 1


def top_place(mask):
    """The place of the highest one of a mask that is not 0."""
    return mask.bit_length() - 1


def reduced_masks(masks):
    """The fewest masks that the masks are sums of, descending; each has the only 1 at the place of its highest one."""
    found = []
    for mask in masks:
        for row in found:
            if mask >> top_place(row) & 1:
                mask ^= row
        if mask:
            top = top_place(mask)
            found = [row ^ mask if row >> top & 1 else row for row in found] + [mask]
    return sorted(found, reverse=True)


def kernel_masks(masks, many):
    """The fewest masks of many places of which all are sums that share an even number of ones with each of masks."""
    rows = reduced_masks(masks)
    leads = [top_place(row) for row in rows]
    found = []
    for free in range(many):
        if free not in leads:
            found.append((1 << free) + sum([1 << lead for lead, row in zip(leads, rows) if row >> free & 1]))
    return found


def mask_of_bits(bits):
    """The mask with a one at each place where the bits have one, the first one lowest."""
    return sum([bit << k for k, bit in enumerate(bits)])
