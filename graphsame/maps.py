"""Maps of one graph onto another.

Both graphs lie side by side. Those of the first are called points here, and those of the second, on
which they are put, images. A map is a dict that holds the image for each point. The neighbours and the
parting are told as in graphsame.alike, the pieces as in graphsame.pieces.
"""

from graphsame.alike import even_graphs, even_parting, side_by_side
from graphsame.pieces import pieces_of

# No point has this number, so no other part bears it.
CHOSEN = -1


def both_pieces(near, parting, points, images):
    """For each of the points and of the images the piece that it is in."""
    pieces = pieces_of(near, parting, points)
    pieces.update(pieces_of(near, parting, images))
    return pieces


def parting_around(near, parting, points, images, point, image):
    """The deepest parting of points and images with two chosen ones in a part of their own; None if uneven."""
    chosen = {}
    for other in points + images:
        chosen[other] = parting[other]
    chosen[point] = CHOSEN
    chosen[image] = CHOSEN
    return even_parting(near, chosen, points, images)


def put(near, parting, pieces, point, image):
    """The first map of the point's piece onto the image's that puts the point on the image; None if there is none."""
    points = pieces[point]
    images = pieces[image]
    if parting[point] != parting[image] or len(points) != len(images):
        return None
    if len(points) == 1:
        return {point: image}
    deepest = parting_around(near, parting, points, images, point, image)
    if deepest is None:
        return None
    return first_map(near, deepest, points, images)


def first_put(near, parting, pieces, point, images):
    """The first map of the point's piece that puts the point on one of the images; None if there is none."""
    for image in images:
        placed = put(near, parting, pieces, point, image)
        if placed is not None:
            return placed
    return None


def first_map(near, parting, points, images):
    """The first map of the points onto the images that keeps the parts of a deepest parting; None if there is none."""
    pieces = both_pieces(near, parting, points, images)
    found = {}
    for point in points:
        if point not in found:
            placed = first_put(near, parting, pieces, point, images)
            # The pieces put so far were put on the same ones, so no other choice for them could help.
            if placed is None:
                return None
            found.update(placed)
            taken = list(placed.values())
            images = [image for image in images if image not in taken]
    return found


def first_images(first, second):
    """Where the first map of a graph onto another puts each point; None if there is none."""
    parting = even_graphs(first, second)
    if parting is None:
        return None
    before = len(first)
    found = first_map(side_by_side(first, second), parting, list(range(before)), list(range(before, 2 * before)))
    if found is None:
        return None
    return [found[point] - before for point in range(before)]
