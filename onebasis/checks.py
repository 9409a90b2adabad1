"""What a value is, judged by its kind: numbers, bits, lists, legs."""

MOST_LEGS = 8
MOST_PLACES = 60
MOST_TIES = 200
MOST_FILLED = 12


def is_number(thing):
    """Whether it is an int that is not a bool."""
    return isinstance(thing, int) and not isinstance(thing, bool)


def is_from(thing, least, most):
    """Whether it is a number from least to most."""
    return is_number(thing) and least <= thing <= most


def is_list(thing):
    """Whether it may stand where a list is spoken of."""
    return isinstance(thing, (list, tuple))


def is_prime(thing):
    """Whether it is an odd prime within the limits."""
    if not is_from(thing, 3, 97):
        return False
    return all([thing % k for k in range(2, 10) if k < thing])


def is_field_number(prime, thing):
    """Whether it is a number of the field."""
    return is_from(thing, 0, prime - 1)


def are_field_numbers(prime, things):
    """Whether it is a list of numbers of the field."""
    return is_list(things) and all([is_field_number(prime, x) for x in things])


def is_table(prime, things):
    """Whether it is a list of 2 ** n numbers of the field, n within the limits."""
    if not is_list(things) or len(things) not in [1 << n for n in range(MOST_LEGS + 1)]:
        return False
    return are_field_numbers(prime, things)


def is_bit(thing):
    """Whether it is the number 0 or 1."""
    return is_from(thing, 0, 1)


def are_bits(things, many):
    """Whether it is a tuple of this many bits."""
    return isinstance(things, tuple) and len(things) == many and all([is_bit(x) for x in things])


def is_tuple_of(thing, many):
    """Whether it is a tuple of this many things."""
    return isinstance(thing, tuple) and len(thing) == many


def is_leg(thing, counts):
    """Whether it is a pair (place, leg), where counts tells how many legs each place has."""
    if not is_tuple_of(thing, 2) or not is_from(thing[0], 0, len(counts) - 1):
        return False
    return is_from(thing[1], 0, counts[thing[0]] - 1)


def are_unlike(things):
    """Whether no two of these numbers, or tuples of numbers, are equal."""
    return len(set(things)) == len(things)


def are_ascending(things, most):
    """Whether each of these is a number from 0 to most, greater than the one ahead."""
    if not all([is_from(x, 0, most) for x in things]):
        return False
    return all([things[k] < things[k + 1] for k in range(len(things) - 1)])


def are_places(things, many):
    """Whether it is an ascending list of unlike numbers below many."""
    return is_list(things) and are_ascending(things, many - 1)


def are_free_legs(things, counts, tied):
    """Whether it is a list of just the legs that stand in no tie, each once, within the limits."""
    if not is_list(things) or len(things) > MOST_LEGS:
        return False
    if not all([is_leg(x, counts) for x in things]) or not are_unlike(things):
        return False
    return len(tied) + len(things) == sum(counts) and len(set(things) & set(tied)) == 0
