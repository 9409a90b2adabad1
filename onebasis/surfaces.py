"""Places whose legs stand round them, led together by ties: pieces, faces, flat or not.

Counts tell how many legs each place has, pairs the ties as pairs of legs, outer the outer legs.
"""


def pieces_of(many, links):
    """The lists of the numbers below many that the links, pairs of them, lead together, ascending."""
    near = [[] for _ in range(many)]
    for one, other in links:
        near[one].append(other)
        near[other].append(one)
    found = {}
    pieces = []
    for place in range(many):
        if place not in found:
            pieces.append(sorted(reached_from(near, place, found)))
    return pieces


def reached_from(near, place, found):
    """The places that near leads to from place; they are marked in found."""
    reached = [place]
    found[place] = True
    k = 0
    while k < len(reached):
        for other in near[reached[k]]:
            if other not in found:
                found[other] = True
                reached.append(other)
        k += 1
    return reached


def strands_of(counts, pairs, outer):
    """The ties, and each outer leg with the leg of outside that it is tied to."""
    last = len(outer) - 1
    return list(pairs) + [(leg, (len(counts), last - k)) for k, leg in enumerate(outer)]


def counts_outside(counts, outer):
    """How many legs each place has, outside among them if there is one."""
    return list(counts) + ([len(outer)] if outer else [])


def other_ends(pairs):
    """The dict from each leg in the pairs to the other one of its pair."""
    ends = {}
    for one, other in pairs:
        ends[one] = other
        ends[other] = one
    return ends


def face_from(leg, ends, counts):
    """The legs met from a leg on: to the other end of its tie, there to the next leg round, and so on."""
    face = [leg]
    place, k = ends[leg]
    at = (place, (k + 1) % counts[place])
    while at != leg:
        face.append(at)
        place, k = ends[at]
        at = (place, (k + 1) % counts[place])
    return face


def faces_of(counts, pairs, outer):
    """All faces, ascending, each as the tuple of its legs from its least one on."""
    ends = other_ends(strands_of(counts, pairs, outer))
    every = counts_outside(counts, outer)
    met = {}
    faces = []
    for place, many in enumerate(every):
        if many == 0:
            faces.append(((place, 0),))
        for k in range(many):
            if (place, k) not in met:
                face = face_from((place, k), ends, every)
                for leg in face:
                    met[leg] = True
                faces.append(tuple(face))
    return faces


def is_flat_surface(counts, pairs, outer):
    """Whether in each piece places and faces together are 2 more than ties."""
    strands = strands_of(counts, pairs, outer)
    many = len(counts_outside(counts, outer))
    pieces = pieces_of(many, [(one[0], other[0]) for one, other in strands])
    # No piece has more than 2 by which places and faces exceed ties, so the whole sum tells each of them.
    return many + len(faces_of(counts, pairs, outer)) == len(strands) + 2 * len(pieces)
