"""Lines of webs: all legs in a row in which places do not cross, and ties do not."""

from onebasis.checks import are_unlike, is_leg, is_list
from onebasis.surfaces import other_ends
from onebasis.webs import faces, is_flat, leg_counts, want_web


class Trip:
    """A way round the places and through the faces: the line so far, what is met, and which face each corner is at."""

    def __init__(self, web):
        self.counts = leg_counts(web)
        self.faces = faces(web)
        self.face_at = {leg: k for k, face in enumerate(self.faces) for leg in face}
        self.met = {}
        self.used = {}
        self.line = []


def is_line(web, thing):
    """Whether any value is a line of the web."""
    want_web(web)
    counts = leg_counts(web)
    if not is_list(thing) or len(thing) != sum(counts):
        return False
    if not all([is_leg(leg, counts) for leg in thing]) or not are_unlike(thing):
        return False
    if not are_in_turn(counts, thing) or not are_nested([place for place, _ in thing]):
        return False
    return are_ties_nested(web, thing)


def are_in_turn(counts, legs):
    """Whether the legs of each place stand in their sequence from some leg on."""
    found = [[] for _ in counts]
    for place, k in legs:
        found[place].append(k)
    return all([row == [(row[0] + k) % many for k in range(many)] for row, many in zip(found, counts)])


def are_nested(names):
    """Whether no two names cross: of no four of them the first and the third are one, the two others another one."""
    left = {}
    for name in names:
        left[name] = left.get(name, 0) + 1
    begun = {}
    around = []
    for name in names:
        if name not in begun:
            begun[name] = True
            around.append(name)
        elif around[-1] != name:
            return False
        left[name] -= 1
        while around and left[around[-1]] == 0:
            around.pop()
    return True


def are_ties_nested(web, legs):
    """Whether no ties cross, and the outer legs stand in their sequence, none of them within a tie."""
    where = {leg: k for k, leg in enumerate(legs)}
    spots = [where[leg] for leg in web.outer]
    if not all([spots[k] < spots[k + 1] for k in range(len(spots) - 1)]):
        return False
    for one, other in web.ties:
        low, high = min(where[one], where[other]), max(where[one], where[other])
        if any([low < spot < high for spot in spots]):
            return False
    ends = other_ends(web.ties)
    return are_nested([min(leg, ends[leg]) for leg in legs if leg in ends])


def line_of(web):
    """A line of the web; None if it is not flat."""
    if not is_flat(web):
        return None
    trip = Trip(web)
    # All places that are tied to outside are reached from the first outer leg on, which stands first.
    for leg in list(web.outer[:1]) + [(place, 0) for place in range(len(web.rules))]:
        if leg[0] not in trip.met:
            go_round(trip, leg)
    return trip.line


def go_round(trip, leg):
    """Puts all legs of the leg's place into the line, from this one on; behind each the places at the face there."""
    place, first = leg
    trip.met[place] = True
    many = trip.counts[place]
    for k in range(many):
        trip.line.append((place, (first + k) % many))
        go_through(trip, (place, (first + k + 1) % many))


def go_through(trip, leg):
    """Goes to all places at the face ahead of the leg that are not met yet."""
    number = trip.face_at[leg]
    if number in trip.used:
        return
    trip.used[number] = True
    face = trip.faces[number]
    at = face.index(leg)
    # Against the sequence of the face, so that a place that is tied to another one there comes next to it.
    for other in (face[at + 1:] + face[:at])[::-1]:
        if other[0] < len(trip.counts) and other[0] not in trip.met:
            go_round(trip, other)
