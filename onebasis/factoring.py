"""Rules as products of a rule of some legs and one of the others, told round bits at which they are not 0."""

from onebasis.legwork import leg_mask, leg_sums


def is_split(rule, base, legs):
    """Whether the rule is a product of a rule of these legs and one of the others; it is not 0 at base."""
    mask = sum([leg_mask(rule.legs, leg) for leg in legs])
    table = rule.table
    for k in range(len(table)):
        turned_bits = (k ^ base) & mask
        if (table[k] * table[base] - table[k ^ turned_bits] * table[base ^ turned_bits]) % rule.prime:
            return False
    return True


def worths_at(rule, base, legs):
    """The worths at all bits of these legs, ascending, the others having the bits of base."""
    mask = sum([leg_mask(rule.legs, leg) for leg in legs])
    return [rule.table[k] for k in leg_sums(rule.legs, legs, base - (base & mask))]
