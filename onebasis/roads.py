"""Roads of a web: its places in a row, how many legs are loose on the way, and fences that bar narrow roads."""

from onebasis.checks import are_places, is_from, is_list
from onebasis.errors import BadNumber, BadRoad, TooMany
from onebasis.legwork import places_in
from onebasis.webs import want_web

MOST_ROAD_PLACES = 9
GREATEST_WIDTH = 480


def want_road(web, road):
    """Refuses what is no list of all places, each once."""
    if not is_list(road) or not all([is_from(place, 0, len(web.rules) - 1) for place in road]):
        raise BadRoad("a list of all places is wanted")
    if sorted(road) != list(range(len(web.rules))):
        raise BadRoad("a list of all places is wanted")


def want_few_places(web):
    """Refuses a web of too many places to go through all lots of them."""
    if len(web.rules) > MOST_ROAD_PLACES:
        raise TooMany(MOST_ROAD_PLACES)


def want_width(width):
    """Refuses what is no width."""
    if not is_from(width, 0, GREATEST_WIDTH):
        raise BadNumber("width")


def loose_legs(web, places):
    """How many legs of the places stand in no tie among them."""
    held = {place: True for place in places}
    within = [1 for one, other in web.ties if one[0] in held and other[0] in held]
    return sum([web.rules[place].legs for place in places]) - 2 * len(within)


def road_width(web, road):
    """The most loose legs behind the first places of a road."""
    want_web(web)
    want_road(web, road)
    return max([loose_legs(web, road[:k]) for k in range(len(road) + 1)])


def best_road(web):
    """The first of the roads with the least width."""
    want_web(web)
    want_few_places(web)
    every = range(len(web.rules))
    full = (1 << len(web.rules)) - 1
    # The least width of any way from a lot of places to all of them, the lot itself among them.
    widths = {full: loose_legs(web, places_in(full))}
    for lot in reversed(range(full)):
        further = min([widths[lot + (1 << k)] for k in every if not lot >> k & 1])
        widths[lot] = max(loose_legs(web, places_in(lot)), further)
    road = []
    lot = 0
    while lot != full:
        place = [k for k in every if not lot >> k & 1 and widths[lot + (1 << k)] <= widths[0]][0]
        road.append(place)
        lot += 1 << place
    return road


def is_fence(web, width, thing):
    """Whether any value is a fence of the web for this width."""
    want_web(web)
    want_width(width)
    if not is_list(thing) or not all([are_places(places, len(web.rules)) for places in thing]):
        return False
    held = {tuple(places): True for places in thing}
    if len(held) != len(thing) or () not in held or tuple(range(len(web.rules))) in held:
        return False
    for places in held:
        for place in range(len(web.rules)):
            if place not in places:
                further = tuple(sorted(places + (place,)))
                if further not in held and loose_legs(web, further) <= width:
                    return False
    return True


def fence_of(web, width):
    """A fence of the web for this width; None if there is none."""
    want_web(web)
    want_width(width)
    want_few_places(web)
    full = (1 << len(web.rules)) - 1
    found = {0: True}
    reached = [0]
    while reached:
        lot = reached.pop()
        for k in range(len(web.rules)):
            further = lot | 1 << k
            if further not in found and loose_legs(web, places_in(further)) <= width:
                found[further] = True
                reached.append(further)
    if full in found:
        return None
    return sorted([places_in(lot) for lot in found])
