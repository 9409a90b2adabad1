"""Places led together tie by tie: the ties of a course, and the rings of legs round what is joined.

Legs are pairs (place, leg), ties pairs of legs.
"""

from onebasis.legwork import behind


def made_course(many, ties):
    """The ties that join regions of many places, made in rounds that join each region once at most."""
    region = list(range(many))
    course = []
    before = -1
    while before != len(course):
        before = len(course)
        fresh = {}
        for tie in ties:
            one, other = region[tie[0][0]], region[tie[1][0]]
            if one != other and one not in fresh and other not in fresh:
                # Regions are told by their least place, so what a join of this round made is told anew by it.
                fresh[min(one, other)] = True
                region = [min(one, other) if x in (one, other) else x for x in region]
                course.append(tie)
    return course


def joined_regions(many, course):
    """The lists of the regions' places, and the pair of joined regions for each tie; None if one joins nothing."""
    regions = [[place] for place in range(many)]
    region = list(range(many))
    joins = []
    for tie in course:
        one, other = region[tie[0][0]], region[tie[1][0]]
        if one == other:
            return None
        joins.append((one, other))
        places = sorted(regions[one] + regions[other])
        for place in places:
            region[place] = len(regions)
        regions.append(places)
    return (regions, joins)


def joined_ring(ring, leg, further, other):
    """The ring from behind leg on up to ahead of it, then the further one likewise round other."""
    return ring_behind(ring, leg) + ring_behind(further, other)


def ring_behind(ring, leg):
    """The other legs of the ring, going round from behind leg."""
    return [ring[k] for k in behind(len(ring), ring.index(leg))]


def tied_neighbour(ring, ends):
    """The place of the first leg that is tied to the next one, going round; None if there is none."""
    many = len(ring)
    for k in range(many):
        if ends.get(ring[k]) == ring[(k + 1) % many]:
            return k
    return None


def reduced_ring(ring, ends):
    """The ring without legs that follow one another as the legs of a tie, as long as there are such."""
    at = tied_neighbour(ring, ends)
    while at is not None:
        pair = (ring[at], ends[ring[at]])
        ring = [leg for leg in ring if leg not in pair]
        at = tied_neighbour(ring, ends)
    return ring


def from_least(ring):
    """The ring from its least leg on."""
    if not ring:
        return []
    at = ring.index(min(ring))
    return ring[at:] + ring[:at]
