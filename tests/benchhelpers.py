"""Made-up questions and deeds of workbenches, for the tests."""

QUESTIONS = [("sum", ()), ("sum", (0, 1)), ("around", 0, ()), ("free", 1, (0, 1)), ("channels", 0, 1, ()), ("parting", 0, 1),
             ("share", (0, 0), 1), ("classes",), ("basis",)]
EDITS = [("rule", 0, (1, 2, 0, 1)), ("add", (1,)), ("tie", (0, 0), (1, 1)), ("cut", (0, 1)), ("swap", 0), ("turn", 1, 3),
         ("flip", (0, 0)), ("merge", (1, 0))]


def some_bits(chance, many):
    return tuple(chance.randrange(2) for _ in range(many))


def some_question(chance, web):
    """A made-up question about a web, now and then of what the web lacks."""
    places = max(1, len(web.rules))
    place, other = chance.randrange(places + (chance.randrange(6) == 0)), chance.randrange(places)
    outer = some_bits(chance, min(8, len(web.outer) + (chance.randrange(8) == 0)))
    legs = web.rules[place].legs if place < len(web.rules) else 1
    leg = (place, chance.randrange(legs + 1))
    return chance.choice([("sum", outer), ("around", place, outer), ("free", place, some_bits(chance, legs)),
                          ("channels", place, other, outer), ("parting", place, other), ("share", leg, chance.randrange(2)),
                          ("classes",), ("basis",)])


def some_edit(chance, web):
    """A made-up edit of a web, mostly one that is let."""
    places = range(len(web.rules))
    edits = [("add", tuple(chance.randrange(web.prime) for _ in range(1 << chance.randrange(3))))]
    if web.rules:
        place = chance.choice(places)
        edits += [("rule", place, tuple(chance.randrange(web.prime) for _ in web.rules[place].table)),
                  ("turn", place, chance.randrange(9))] * 2
    if len(web.outer) > 1:
        edits += [("tie", *chance.sample(web.outer, 2)), ("swap", chance.randrange(len(web.outer)))] * 2
    if web.ties:
        leg = chance.choice(chance.choice(web.ties))
        edits += [("cut", leg), ("flip", leg), ("merge", leg)] * 2
    return chance.choice(edits)


def some_deed(chance, bench):
    """A made-up deed of a bench, mostly one that is let."""
    kind = chance.randrange(8)
    if kind < 3:
        return ("ask", some_question(chance, bench.now))
    if kind == 3:
        return ("unask", chance.randrange(4))
    return some_edit(chance, bench.now)
