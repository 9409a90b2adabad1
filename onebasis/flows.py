"""Ways from place to place over ties, no tie in two of them: links are pairs of places, told by their numbers."""


def steps_of(links):
    """The dict from each place to its steps: (number of the link, place that it leads to, 1 along it or -1 against)."""
    near = {}
    for number, (here, there) in enumerate(links):
        near.setdefault(here, []).append((number, there, 1))
        near.setdefault(there, []).append((number, here, -1))
    return near


def path_of(near, one, other, is_open):
    """The steps of a way from one to other, each (number, place, direction), that are open; None without one."""
    came = {one: None}
    reached = [one]
    k = 0
    while k < len(reached) and other not in came:
        for step in near.get(reached[k], []):
            if step[1] not in came and is_open(step[0], step[2]):
                came[step[1]] = (reached[k], step)
                reached.append(step[1])
        k += 1
    if other not in came:
        return None
    path = []
    while other != one:
        other, step = came[other]
        path.append(step)
    path.reverse()
    return path


def greatest_flow(links, left_out, one, other):
    """The most ways from one to other over links that are not left out: how many, and for each link 1, 0 or -1."""
    near = steps_of(links)
    flow = [0] * len(links)
    gone = {number: True for number in left_out}
    many = 0
    path = path_of(near, one, other, lambda number, way: number not in gone and flow[number] != way)
    while path is not None:
        many += 1
        for number, _, way in path:
            flow[number] += way
        path = path_of(near, one, other, lambda number, way: number not in gone and flow[number] != way)
    return (many, flow)


def greatest_paths(links, one, other):
    """The most ways from one to other, each a list of steps, none of which meets a place twice."""
    near = steps_of(links)
    left = greatest_flow(links, [], one, other)[1]
    paths = []
    path = path_of(near, one, other, lambda number, way: left[number] == way)
    while path is not None:
        for number, _, way in path:
            left[number] = 0
        paths.append(path)
        path = path_of(near, one, other, lambda number, way: left[number] == way)
    return paths
