"""Movings, the maps of a graph onto itself.

The graph lies beside itself: each point has an image that is the same point, as far behind it as there
are points. The neighbours and the parting are told as in graphsame.alike, the pieces as in
graphsame.pieces, the maps as in graphsame.maps.
"""

from graphsame.alike import even_graphs, side_by_side
from graphsame.maps import both_pieces, parting_around, put


def images_of(near, points):
    """The images that are the same as the points."""
    before = len(near) // 2
    return [point + before for point in points]


def reached_from(near, point, placings):
    """The points on which the maps of pieces, one after another in any order, put a point."""
    # Each of the maps is part of a moving: what lies where it puts its piece can be put back in exchange.
    before = len(near) // 2
    found = {point: True}
    waiting = [point]
    while len(waiting) > 0:
        start = waiting.pop()
        for placed in placings:
            other = placed.get(start, start + before) - before
            if other not in found:
                found[other] = True
                waiting.append(other)
    return found


def orbit_of(near, parting, pieces, point, points):
    """Those of the points on which some moving that keeps the parts puts the point."""
    before = len(near) // 2
    placings = []
    orbit = {point: True}
    for other in points:
        # What the maps found so far reach has not to be searched for.
        if other not in orbit:
            placed = put(near, parting, pieces, point, other + before)
            if placed is not None:
                placings.append(placed)
                orbit = reached_from(near, point, placings)
    return orbit


def movings_fixing(near, parting, points, point):
    """How many movings of a piece keep the parts and leave the point where it is."""
    if len(points) == 1:
        return 1
    image = point + len(near) // 2
    deepest = parting_around(near, parting, points, images_of(near, points), point, image)
    return movings_keeping(near, deepest, points)


def movings_keeping(near, parting, points):
    """How many movings of the points keep the parts of a deepest parting."""
    pieces = both_pieces(near, parting, points, images_of(near, points))
    total = 1
    left = points
    for point in points:
        if point in left:
            piece = pieces[point]
            # Wherever a moving puts the point, as many ways are left for all the others.
            total = total * len(orbit_of(near, parting, pieces, point, left))
            total = total * movings_fixing(near, parting, piece, point)
            left = [other for other in left if other not in piece]
    return total


def count_movings(joined):
    """How many movings a graph has."""
    return movings_keeping(side_by_side(joined, joined), even_graphs(joined, joined), list(range(len(joined))))


def least_moved_on(joined):
    """For each point of a graph the least on which some moving puts it."""
    near = side_by_side(joined, joined)
    parting = even_graphs(joined, joined)
    points = list(range(len(joined)))
    pieces = both_pieces(near, parting, points, images_of(near, points))
    least = {}
    for point in points:
        if point not in least:
            left = [other for other in points if other not in least]
            for other in orbit_of(near, parting, pieces, point, left):
                least[other] = point
    return [least[point] for point in points]
