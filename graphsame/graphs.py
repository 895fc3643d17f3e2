"""The calls on two graphs, handed in and answered as lists of whole numbers.

A graph is a list of rows, one for each point: row u holds 1 at v if u and v are neighbours, else 0.
Both graphs stand in one list. Each call gives back the list of the numbers that it answers.
"""

from graphsame.alike import depth_apart, even_graphs, least_alike, rounds_needed
from graphsame.form import form_of
from graphsame.maps import first_images
from graphsame.movings import count_movings, least_moved_on
from graphsame.ways import count_circles, count_trees, count_walks

MOST_POINTS = 16
MOST_STEPS = 64
MOST_HUNG = 15
DONE = 0
REFUSED = -1
THERE_IS_NONE = -2

BEGIN = 0
GRAPH = 1
EDGE = 2
DEGREE = 3
TURN = 4
SETTLE = 5
CLASSES = 6
ROUNDS = 7
APART = 8
REFINED = 9
SAME = 10
MOVINGS = 11
ORBITS = 12
WALKS = 13
CIRCLES = 14
TREES = 15

# How many numbers stand behind each call's own, from begin on; of trees the last of them tells how many
# more there are.
WIDTHS = (0, 2, 4, 2, 1, 1, 2, 1, 2, 0, 1, 1, 2, 2, 2, 2)


def is_graph(g):
    """Whether there is a graph g."""
    return g == 0 or g == 1


def has_point(graphs, g, u):
    """Whether there is a graph g with a point u."""
    return is_graph(g) and 0 <= u and u < len(graphs[g])


def first_numbers(numbers, most):
    """The first most of the numbers, none of a most that no graph can have as many points as."""
    if most < 1 or most > MOST_POINTS:
        return []
    return numbers[:most]


def begin(graphs):
    """Leave both graphs without points."""
    graphs[0] = []
    graphs[1] = []
    return [DONE]


def lone_row(n):
    """The row of a point that has none of n points as a neighbour."""
    return [0 for other in range(n)]


def graph(graphs, g, n):
    """Give graph g n points, none of them neighbours."""
    if not is_graph(g) or n < 0 or n > MOST_POINTS:
        return [REFUSED]
    graphs[g] = [lone_row(n) for point in range(n)]
    return [DONE]


def edge(graphs, g, u, v, on):
    """Make u and v of graph g neighbours, or not."""
    if not has_point(graphs, g, u) or not has_point(graphs, g, v) or u == v:
        return [REFUSED]
    mark = 0 if on == 0 else 1
    joined = graphs[g]
    joined[u][v] = mark
    joined[v][u] = mark
    return [DONE]


def degree(graphs, g, u):
    """Count the neighbours of u in graph g."""
    if not has_point(graphs, g, u):
        return [REFUSED]
    return [sum(graphs[g][u])]


def turned_row(row, point):
    """The row of the point with others and neighbours changed about."""
    turned = [1 - mark for mark in row]
    # No point is its own neighbour, also not of a graph that is turned.
    turned[point] = 0
    return turned


def turn(graphs, g):
    """Make those of graph g neighbours that were not."""
    if not is_graph(g):
        return [REFUSED]
    joined = graphs[g]
    graphs[g] = [turned_row(joined[point], point) for point in range(len(joined))]
    return [DONE]


def settle(graphs, g):
    """Make graph g its form."""
    if not is_graph(g):
        return [REFUSED]
    graphs[g] = form_of(graphs[g])
    return [DONE]


def classes(graphs, g, most):
    """Count the points of graph g, then tell for each the least that is alike with it."""
    if not is_graph(g):
        return [REFUSED]
    joined = graphs[g]
    return [len(joined)] + first_numbers(least_alike(joined), most)


def rounds(graphs, g):
    """Tell the least depth at which the points of graph g are parted no more."""
    if not is_graph(g):
        return [REFUSED]
    return [rounds_needed(graphs[g])]


def apart(graphs, u, v):
    """Tell the least depth at which u of graph 0 and v of graph 1 are not alike."""
    if not has_point(graphs, 0, u) or not has_point(graphs, 1, v):
        return [REFUSED]
    depth = depth_apart(graphs[0], graphs[1], u, v)
    return [THERE_IS_NONE if depth is None else depth]


def refined(graphs):
    """Tell whether both graphs have as many points of each part."""
    return [0 if even_graphs(graphs[0], graphs[1]) is None else 1]


def same(graphs, most):
    """Count the points, then tell where the first map of graph 0 onto graph 1 puts each."""
    images = first_images(graphs[0], graphs[1])
    if images is None:
        return [THERE_IS_NONE]
    return [len(images)] + first_numbers(images, most)


def movings(graphs, g):
    """Count the movings of graph g."""
    if not is_graph(g):
        return [REFUSED]
    return [DONE, count_movings(graphs[g])]


def orbits(graphs, g, most):
    """Count the points of graph g, then tell for each the least on which some moving puts it."""
    if not is_graph(g):
        return [REFUSED]
    joined = graphs[g]
    return [len(joined)] + first_numbers(least_moved_on(joined), most)


def has_steps(k):
    """Whether ways of k steps are counted."""
    return 0 <= k and k <= MOST_STEPS


def walks(graphs, g, k):
    """Count the ways of k steps over graph g."""
    if not is_graph(g) or not has_steps(k):
        return [REFUSED]
    return [DONE, count_walks(graphs[g], k)]


def circles(graphs, g, k):
    """Count the ways of k steps over graph g that end where they began."""
    if not is_graph(g) or not has_steps(k):
        return [REFUSED]
    return [DONE, count_circles(graphs[g], k)]


def is_tree(hung):
    """Whether there are not too many points and each behind the first hangs on one before it."""
    return len(hung) <= MOST_HUNG and all([0 <= hung[i] and hung[i] <= i for i in range(len(hung))])


def trees(graphs, g, hung):
    """Count how often the tree that hung tells lies in graph g."""
    if not is_graph(g) or not is_tree(hung):
        return [REFUSED]
    return [DONE, count_trees(graphs[g], hung)]


def answer(graphs, call, numbers):
    """Carry out one call, whose own number is call, with the numbers behind it."""
    if call == BEGIN:
        return begin(graphs)
    if call == GRAPH:
        return graph(graphs, numbers[0], numbers[1])
    if call == EDGE:
        return edge(graphs, numbers[0], numbers[1], numbers[2], numbers[3])
    if call == DEGREE:
        return degree(graphs, numbers[0], numbers[1])
    if call == TURN:
        return turn(graphs, numbers[0])
    if call == SETTLE:
        return settle(graphs, numbers[0])
    if call == CLASSES:
        return classes(graphs, numbers[0], numbers[1])
    if call == ROUNDS:
        return rounds(graphs, numbers[0])
    if call == APART:
        return apart(graphs, numbers[0], numbers[1])
    if call == REFINED:
        return refined(graphs)
    if call == SAME:
        return same(graphs, numbers[0])
    if call == MOVINGS:
        return movings(graphs, numbers[0])
    if call == ORBITS:
        return orbits(graphs, numbers[0], numbers[1])
    if call == WALKS:
        return walks(graphs, numbers[0], numbers[1])
    if call == CIRCLES:
        return circles(graphs, numbers[0], numbers[1])
    # Of the calls that WIDTHS knows, trees alone is left; its hung stands behind how many it has.
    return trees(graphs, numbers[0], numbers[2:])


def end_of_call(calls, at):
    """Where the call that begins at this place ends in the line."""
    end = at + 1 + WIDTHS[calls[at]]
    if calls[at] == TREES:
        return end + calls[end - 1]
    return end


def answers(calls):
    """Answer a line of calls: for each in turn how many numbers it answers, then these."""
    graphs = [[], []]
    told = []
    at = 0
    while at < len(calls):
        end = end_of_call(calls, at)
        numbers = answer(graphs, calls[at], calls[at + 1:end])
        told.append(len(numbers))
        told.extend(numbers)
        at = end
    return told
