"""Which points of a graph are alike, and how deep that has to be looked for.

A graph is a list of rows, one for each point: row u holds 1 at v if u and v are neighbours, else 0.
A parting is a list that holds, for each point, the least point that is alike with it.
"""


def whole_parting(joined):
    """The parting 0 deep, in which all points are alike."""
    return [0 for row in joined]


def neighbour_parts(row, parting):
    """The parts of a point's neighbours, in one order for all that have as many of each part."""
    return tuple(sorted([parting[other] for other in range(len(row)) if row[other] == 1]))


def deeper_parting(joined, parting):
    """The parting one deeper than the given one."""
    least = {}
    deeper = []
    for point in range(len(joined)):
        marks = (parting[point], neighbour_parts(joined[point], parting))
        deeper.append(least.setdefault(marks, point))
    return deeper


def partings(joined):
    """The partings 0 deep, 1 deep and so on, up to the first that parts no more."""
    found = []
    parting = whole_parting(joined)
    deeper = deeper_parting(joined, parting)
    # Each part bears its least point, so two partings into the same parts are equal lists.
    while deeper != parting:
        found.append(parting)
        parting = deeper
        deeper = deeper_parting(joined, parting)
    found.append(parting)
    return found


def final_parting(joined):
    """For each point the least that is alike with it."""
    return partings(joined)[-1]


def rounds_needed(joined):
    """The least depth at which one step deeper parts no points."""
    return len(partings(joined)) - 1
