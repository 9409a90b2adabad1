"""Live webs: flat webs without outer legs that are changed by deeds, and whose sums are kept up."""

from onebasis.checks import is_from, is_list, is_prime, is_table
from onebasis.courses import is_own_tie
from onebasis.errors import BadLive, BadNumber, TooMany
from onebasis.livedeeds import with_added, with_drawn, with_dropped, with_put
from onebasis.normals import normal_of_skew
from onebasis.regionskews import Regions, facing_table, inner_skew, last_product, outer_skew, tie_share
from onebasis.rules import Rule
from onebasis.webs import Web

MOST_RING_LEGS = 60
# Both legs of the tie that joins two rings still stand in these.
MOST_JOINED_LEGS = 62

# For each word of a deed: what its further parts are.
PARTS = {
    "add": ("table",),
    "put": ("number", "table"),
    "draw": ("leg", "leg", "tables"),
    "drop": ("tie", "tables"),
    "undo": (),
    "redo": (),
}


class Step:
    """A deed that was done: the web and the course ahead of it and behind it, and the places that it reached."""

    def __init__(self, ahead, behind, reached, quiet):
        self.ahead = ahead
        self.behind = behind
        self.reached = reached
        self.quiet = quiet


class Live:
    """A live web of a prime."""

    def __init__(self, prime):
        if not is_prime(prime):
            raise BadLive("prime")
        self._now = Regions(Web(prime, [], [], []), [])
        self._told = []
        self._done = []
        self._undone = []

    def web(self):
        """The web that it is now."""
        return self._now.whole

    def course(self):
        """Its course now."""
        return list(self._now.links)

    def region_form(self, region):
        """The normal form of a region, with the legs of its ring."""
        want_region(self._now, region)
        return normal_of_skew(inner_skew(self._now, region))

    def whole_sum(self):
        """The sum of its web."""
        return last_product(self._now, None)

    def surrounding(self, region):
        """The normal form of all that is not in a region, with legs that face those of its ring."""
        want_region(self._now, region)
        return normal_of_skew(outer_skew(self._now, region))

    def facing(self, place):
        """The rule with the legs of a place that tells the sum for whatever rule stands there."""
        if not is_from(place, 0, len(self._now.whole.rules) - 1):
            raise BadNumber("place")
        return Rule(self._now.whole.prime, facing_table(self._now, place))

    def share_of(self, tie):
        """The part of the sum at which the tie has the bit 1."""
        if not is_own_tie(self._now.whole, tie):
            raise BadNumber("tie")
        return tie_share(self._now, facing_table(self._now, tie[0][0]), tie, 1)

    def kept(self):
        """The regions whose forms, and those whose surroundings, are kept now."""
        return (sorted(self._now.within), sorted(self._now.around))

    def made(self):
        """How many forms and surroundings were made so far."""
        return self._now.count

    def add(self, rule):
        """Adds a place without legs."""
        self._deed(("add", rule), with_added(self._now.whole, self._now.links, rule))

    def put(self, place, rule):
        """Gives a place another rule."""
        self._deed(("put", place, rule), with_put(self._now.whole, self._now.links, place, rule))

    def draw(self, one, other, rules):
        """Draws a tie between two corners."""
        self._deed(("draw", one, other, rules), with_drawn(self._now.whole, self._now.links, one, other, rules))

    def drop(self, tie, rules):
        """Takes a tie away."""
        self._deed(("drop", tie, rules), with_dropped(self._now.whole, self._now.links, tie, rules))

    def undo(self):
        """Undoes the last deed that is not undone."""
        if not self._done:
            raise BadLive("undo")
        step = self._done.pop()
        self._undone.append(step)
        self._now = carried(self._now, step.ahead, step.reached, step.quiet)
        self._told.append(("undo",))

    def redo(self):
        """Does again what was undone last."""
        if not self._undone:
            raise BadLive("redo")
        step = self._undone.pop()
        self._done.append(step)
        self._now = carried(self._now, step.behind, step.reached, step.quiet)
        self._told.append(("redo",))

    def deeds(self):
        """All that was done so far."""
        return list(self._told)

    def do(self, deed):
        """Does a deed as deeds tells it."""
        parts = parts_of(self._now.whole.prime, deed)
        if deed[0] == "add":
            self.add(*parts)
        elif deed[0] == "put":
            self.put(*parts)
        elif deed[0] == "draw":
            self.draw(*parts)
        elif deed[0] == "drop":
            self.drop(*parts)
        elif deed[0] == "undo":
            self.undo()
        else:
            self.redo()

    def _deed(self, deed, found):
        """Takes up what a new deed makes of the web and the course, unless its rings are too long."""
        whole, links, reached = found
        step = Step((self._now.whole, self._now.links), (whole, links), reached, deed[0] == "put")
        fresh = carried(self._now, step.behind, reached, step.quiet)
        if any([len(fresh.rings[one]) + len(fresh.rings[other]) > MOST_JOINED_LEGS for one, other in fresh.joins]):
            raise TooMany(MOST_RING_LEGS)
        self._now = fresh
        self._done.append(step)
        self._undone.clear()
        self._told.append(told_deed(deed))


def want_region(told, region):
    """Refuses what is not the number of a region."""
    if not is_from(region, 0, len(told.places) - 1):
        raise BadNumber("region")


def told_deed(deed):
    """The deed with tables in the place of its rules."""
    last = deed[-1]
    tables = last.table if isinstance(last, Rule) else tuple([rule.table for rule in last])
    return deed[:-1] + (tables,)


def parts_of(prime, deed):
    """The parts of a deed behind its word, with rules in the place of tables."""
    if not isinstance(deed, tuple) or len(deed) == 0 or not isinstance(deed[0], str):
        raise BadLive("deed")
    shape = PARTS.get(deed[0])
    if shape is None or len(deed) != len(shape) + 1:
        raise BadLive("deed")
    parts = list(deed[1:])
    if "table" in shape or "tables" in shape:
        tables = [parts[-1]] if "table" in shape else parts[-1]
        if not is_list(tables) or not all([is_list(table) for table in tables]):
            raise BadLive("deed")
        if not all([is_table(prime, table) for table in tables]):
            raise BadLive("rules")
        rules = [Rule(prime, table) for table in tables]
        parts[-1] = rules[0] if "table" in shape else rules
    return parts


def carried(old, told, reached, quiet):
    """The regions of another web and course, with what stays of what was kept; quiet if just a rule was exchanged."""
    fresh = Regions(told[0], told[1])
    fresh.count = old.count
    found = {name: region for region, name in enumerate(region_names(old))}
    for region, name in enumerate(region_names(fresh)):
        if found.get(name) in old.within and not any([place in reached for place in fresh.places[region]]):
            fresh.within[region] = old.within[found[name]]
    if quiet:
        stay = [region for region in old.around if reached[0] in old.places[region]]
        fresh.around = {region: old.around[region] for region in stay}
    return fresh


def region_names(told):
    """For each region the pair of its places and of the ties of the course that made it."""
    names = [((place,), ()) for place in range(len(told.whole.rules))]
    for (one, other), tie in zip(told.joins, told.links):
        ties = names[one][1] + names[other][1] + (tie,)
        names.append((tuple(sorted(names[one][0] + names[other][0])), tuple(sorted(ties))))
    return names
