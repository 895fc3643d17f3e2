"""Which points are alike, and how deep that has to be looked for.

A graph is a list of rows, one for each point: row u holds 1 at v if u and v are neighbours, else 0.
Partings are made of one graph or of two side by side, given as a list that holds, for each point, a dict
of its neighbours. A parting is a dict that holds, for each point that is looked at, the part that it is
in: two points are in one part if they are alike as deep as the parting goes.
"""


def neighbours(row, before):
    """The neighbours of a point by its row, numbered behind as many points as stand before its graph."""
    found = {}
    for other in range(len(row)):
        if row[other] == 1:
            found[before + other] = True
    return found


def alone(joined):
    """The neighbours of each point of a graph."""
    return [neighbours(row, 0) for row in joined]


def side_by_side(first, second):
    """The neighbours of each point of two graphs, those of the second numbered behind those of the first."""
    return alone(first) + [neighbours(row, len(first)) for row in second]


def whole_parting(near):
    """The parting 0 deep, in which all points are alike."""
    parting = {}
    for point in range(len(near)):
        parting[point] = 0
    return parting


def deeper_parting(near, parting):
    """The parting one deeper than the given one, each part numbered by its first point."""
    first = {}
    deeper = {}
    for point in parting:
        around = sorted([parting[other] for other in near[point] if other in parting])
        deeper[point] = first.setdefault((parting[point], tuple(around)), point)
    return deeper


def partings(near):
    """The partings 0 deep, 1 deep and so on, up to the first that parts no more."""
    found = []
    parting = whole_parting(near)
    deeper = deeper_parting(near, parting)
    # Each part bears the number of its first point, so the same parts make equal dicts.
    while deeper != parting:
        found.append(parting)
        parting = deeper
        deeper = deeper_parting(near, parting)
    found.append(parting)
    return found


def least_alike(joined):
    """For each point of a graph the least that is alike with it."""
    return list(partings(alone(joined))[-1].values())


def rounds_needed(joined):
    """The least depth at which one step deeper parts no points of a graph."""
    return len(partings(alone(joined))) - 1


def depth_apart(first, second, u, v):
    """The least depth at which u of the first graph and v of the second are not alike; None if they are."""
    found = partings(side_by_side(first, second))
    for depth in range(len(found)):
        if found[depth][u] != found[depth][len(first) + v]:
            return depth
    return None


def is_even(parting, points, images):
    """Whether each part holds as many of the points as of the images."""
    return sorted([parting[point] for point in points]) == sorted([parting[image] for image in images])


def count_parts(parting):
    """How many parts there are."""
    return len(set([parting[point] for point in parting]))


def even_parting(near, parting, points, images):
    """The deepest parting from the given one on; None if a part of it holds not as many points as images."""
    before = 0
    # What is uneven stays so deeper down, so the first uneven parting tells.
    while is_even(parting, points, images):
        parts = count_parts(parting)
        if parts == before:
            return parting
        before = parts
        parting = deeper_parting(near, parting)
    return None


def even_graphs(first, second):
    """The deepest parting of two graphs side by side; None if a part holds not as many points of each."""
    near = side_by_side(first, second)
    points = list(range(len(first)))
    images = list(range(len(first), len(near)))
    return even_parting(near, whole_parting(near), points, images)
