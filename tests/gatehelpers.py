"""Made-up gates, and their rules by going through all sets of ties, for the tests."""

from itertools import product

from helpers import some_flat_web

from onebasis.gates import Gate
from onebasis.rules import Rule


def some_gate(chance, prime, places, ties):
    """A made-up gate, flat or not, with at most so many ties and a few outer legs."""
    counts = [0] * places
    for _ in range(2 * ties + chance.randrange(3)):
        free = [k for k in range(places) if counts[k] < 5]
        if free:
            counts[chance.choice(free)] += 1
    legs = [(p, k) for p in range(places) for k in range(counts[p])]
    chance.shuffle(legs)
    many = min(ties, len(legs) // 2)
    many = max(many, (len(legs) - 7) // 2)
    pairs = [(legs[2 * k], legs[2 * k + 1], chance.randrange(prime)) for k in range(many)]
    return Gate(prime, counts, pairs, legs[2 * many:])


def plain_rule(gate):
    """The rule of a gate, by going through all sets of its ties."""
    table = []
    for bits in product((0, 1), repeat=len(gate.outer)):
        total = 0
        for chosen in product((0, 1), repeat=len(gate.ties)):
            met = [0] * len(gate.places)
            number = 1
            for (one, other, weight), taken in zip(gate.ties, chosen):
                if taken:
                    met[one[0]] += 1
                    met[other[0]] += 1
                    number *= weight
            for (place, _), bit in zip(gate.outer, bits):
                met[place] += bit
            if all(many == 1 for many in met):
                total += number
        table.append(total % gate.prime)
    return Rule(gate.prime, table)


def some_flat_gate(chance, prime, places, ties, zeros=0):
    """A made-up flat gate, its outer legs being the ties of the last place of a flat web with one place more."""
    while True:
        web = some_flat_web(chance, prime, places + 1, ties, bare_rule)
        inner = [tie for tie in web.ties if tie[0][0] < places and tie[1][0] < places]
        outside = {tie[1]: tie[0] for tie in web.ties if tie[1][0] == places and tie[0][0] < places}
        many = web.rules[places].legs
        if len(outside) == many:
            break
    weights = [0 if chance.randrange(7) < zeros else chance.randrange(1, prime) for _ in inner]
    told = [(one, other, weight) for (one, other), weight in zip(inner, weights)]
    outer = [outside[places, many - 1 - k] for k in range(many)]
    return Gate(prime, [rule.legs for rule in web.rules[:places]], told, outer)


def bare_rule(chance, prime, legs):
    return Rule(prime, [0] * (1 << legs))


def grid_gate(chance, prime, rows, columns, many):
    """A grid of places with made-up weights, the legs round each from the right on; its outer legs go down.

    The pair of the gate and the dict of weights by the two places (row, column) of a tie; row 0 is the lowest one.
    """
    numbers = {(r, c): r * columns + c for r in range(rows) for c in range(columns)}
    legs = {}
    for r, c in numbers:
        ways = [(r, c + 1), (r + 1, c), (r, c - 1), (r - 1, c)]
        legs[r, c] = [way for way in ways if way in numbers or (way[0] == -1 and c < many)]
    ties, weights = [], {}
    for r, c in numbers:
        for other in ((r, c + 1), (r + 1, c)):
            if other in numbers:
                weights[(r, c), other] = chance.randrange(prime)
                ties.append(((numbers[r, c], legs[r, c].index(other)),
                             (numbers[other], legs[other].index((r, c))), weights[(r, c), other]))
    outer = [(numbers[0, c], legs[0, c].index((-1, c))) for c in range(many)]
    return Gate(prime, [len(legs[at]) for at in numbers], ties, outer), weights


def grid_worth(weights, rows, columns, bits, prime):
    """The sum over all pairings of a grid, row by row, of the places that bits at the lowest row leave."""
    states = {tuple(bits) + (0,) * (columns - len(bits)): 1}
    for r in range(rows):
        for c in range(columns):
            fresh = {}
            for state, number in states.items():
                taken, left = list(state), state[c]
                if left:
                    taken[c] = 0
                    ways = [(tuple(taken), 1)]
                else:
                    ways = []
                    if r + 1 < rows:
                        up = list(state)
                        up[c] = 1
                        ways.append((tuple(up), weights[(r, c), (r + 1, c)]))
                    if c + 1 < columns and not state[c + 1]:
                        right = list(state)
                        right[c + 1] = 1
                        right[c] = 0
                        ways.append((tuple(right), weights[(r, c), (r, c + 1)]))
                for key, weight in ways:
                    fresh[key] = (fresh.get(key, 0) + number * weight) % prime
            states = fresh
    return states.get((0,) * columns, 0)
