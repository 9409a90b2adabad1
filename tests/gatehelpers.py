"""Made-up gates, and their rules by going through all sets of ties, for the tests."""

from itertools import product

from onebasis.gates import Gate
from onebasis.rules import Rule


def some_gate(chance, prime, places, ties):
    """A made-up gate, flat or not, with at most so many ties and a few outer legs."""
    counts = [0] * places
    for _ in range(2 * ties + chance.randrange(3)):
        free = [k for k in range(places) if counts[k] < 5]
        if free:
            counts[chance.choice(free)] += 1
    legs = [(p, k) for p in range(places) for k in range(counts[p])]
    chance.shuffle(legs)
    many = min(ties, len(legs) // 2)
    many = max(many, (len(legs) - 7) // 2)
    pairs = [(legs[2 * k], legs[2 * k + 1], chance.randrange(prime)) for k in range(many)]
    return Gate(prime, counts, pairs, legs[2 * many:])


def plain_rule(gate):
    """The rule of a gate, by going through all sets of its ties."""
    table = []
    for bits in product((0, 1), repeat=len(gate.outer)):
        total = 0
        for chosen in product((0, 1), repeat=len(gate.ties)):
            met = [0] * len(gate.places)
            number = 1
            for (one, other, weight), taken in zip(gate.ties, chosen):
                if taken:
                    met[one[0]] += 1
                    met[other[0]] += 1
                    number *= weight
            for (place, _), bit in zip(gate.outer, bits):
                met[place] += bit
            if all(many == 1 for many in met):
                total += number
        table.append(total % gate.prime)
    return Rule(gate.prime, table)
