"""Into which pieces a graph falls when its points are parted.

Of any two parts, most pairs of points are neighbours, or most are not. Two points are linked if they are
not what most pairs of their parts are, and a piece is what hangs together by links.

Maps that keep the parts put linked points on linked ones, so they put whole pieces on whole pieces. And
any such maps of single pieces, no two onto the same, are together a map: points of different pieces are
what most pairs of their parts are, before and after. So for each piece it is asked by itself what it can
be put on, which spares the search nearly all of what it would otherwise have to try.

The neighbours and the parting are told as in graphsame.alike.
"""


def surpluses(near, parting, points):
    """For each two parts how many more pairs of the points are neighbours than are not."""
    found = {}
    for point in points:
        for other in points:
            parts = (parting[point], parting[other])
            found[parts] = found.get(parts, 0) + (1 if other in near[point] else -1)
        # A point and itself are no pair.
        found[(parting[point], parting[point])] += 1
    return found


def linked_with(near, parting, surplus, points, point):
    """Those of the points that are linked with the point, perhaps with itself among them."""
    part = parting[point]
    around = near[point]
    return [other for other in points if (other in around) != (surplus[(part, parting[other])] > 0)]


def piece_of(near, parting, surplus, points, start):
    """Those of the points that hang together with the start, in their order."""
    found = {start: True}
    waiting = [start]
    while len(waiting) > 0:
        linked = linked_with(near, parting, surplus, points, waiting.pop())
        for other in linked:
            if other not in found:
                found[other] = True
                waiting.append(other)
    return [point for point in points if point in found]


def pieces_of(near, parting, points):
    """For each of the points the piece that it is in."""
    surplus = surpluses(near, parting, points)
    found = {}
    for start in points:
        if start not in found:
            piece = piece_of(near, parting, surplus, points, start)
            for point in piece:
                found[point] = piece
    return found
