"""The calls on two graphs, handed in and answered as lists of whole numbers.

A graph is a list of rows, one for each point: row u holds 1 at v if u and v are neighbours, else 0.
Both graphs stand in one list. Each call gives back the list of the numbers that it answers.
"""

from graphsame.alike import final_parting, rounds_needed
from graphsame.form import form_of

MOST_POINTS = 16
DONE = 0
REFUSED = -1

BEGIN = 0
GRAPH = 1
EDGE = 2
DEGREE = 3
TURN = 4
SETTLE = 5
CLASSES = 6

# How many whole numbers stand behind each call's own number, from begin on.
WIDTHS = (0, 2, 4, 2, 1, 1, 2, 1)


def is_graph(g):
    """Whether there is a graph g."""
    return g == 0 or g == 1


def has_point(graphs, g, u):
    """Whether there is a graph g with a point u."""
    return is_graph(g) and 0 <= u and u < len(graphs[g])


def first_numbers(numbers, most):
    """The first most of the numbers, none of a most that no graph can have as many points as."""
    if most < 1 or most > MOST_POINTS:
        return []
    return numbers[:most]


def begin(graphs):
    """Leave both graphs without points."""
    graphs[0] = []
    graphs[1] = []
    return [DONE]


def lone_row(n):
    """The row of a point that has none of n points as a neighbour."""
    return [0 for other in range(n)]


def graph(graphs, g, n):
    """Give graph g n points, none of them neighbours."""
    if not is_graph(g) or n < 0 or n > MOST_POINTS:
        return [REFUSED]
    graphs[g] = [lone_row(n) for point in range(n)]
    return [DONE]


def edge(graphs, g, u, v, on):
    """Make u and v of graph g neighbours, or not."""
    if not has_point(graphs, g, u) or not has_point(graphs, g, v) or u == v:
        return [REFUSED]
    mark = 0 if on == 0 else 1
    joined = graphs[g]
    joined[u][v] = mark
    joined[v][u] = mark
    return [DONE]


def degree(graphs, g, u):
    """Count the neighbours of u in graph g."""
    if not has_point(graphs, g, u):
        return [REFUSED]
    return [sum(graphs[g][u])]


def turned_row(row, point):
    """The row of the point with others and neighbours changed about."""
    turned = [1 - mark for mark in row]
    # No point is its own neighbour, also not of a graph that is turned.
    turned[point] = 0
    return turned


def turn(graphs, g):
    """Make those of graph g neighbours that were not."""
    if not is_graph(g):
        return [REFUSED]
    joined = graphs[g]
    graphs[g] = [turned_row(joined[point], point) for point in range(len(joined))]
    return [DONE]


def settle(graphs, g):
    """Make graph g its form."""
    if not is_graph(g):
        return [REFUSED]
    graphs[g] = form_of(graphs[g])
    return [DONE]


def classes(graphs, g, most):
    """Count the points of graph g, then tell for each the least that is alike with it."""
    if not is_graph(g):
        return [REFUSED]
    joined = graphs[g]
    return [len(joined)] + first_numbers(final_parting(joined), most)


def rounds(graphs, g):
    """Tell the least depth at which the points of graph g are parted no more."""
    if not is_graph(g):
        return [REFUSED]
    return [rounds_needed(graphs[g])]


def answer(graphs, call, numbers):
    """Carry out one call, whose own number is call, with its whole numbers."""
    if call == BEGIN:
        return begin(graphs)
    if call == GRAPH:
        return graph(graphs, numbers[0], numbers[1])
    if call == EDGE:
        return edge(graphs, numbers[0], numbers[1], numbers[2], numbers[3])
    if call == DEGREE:
        return degree(graphs, numbers[0], numbers[1])
    if call == TURN:
        return turn(graphs, numbers[0])
    if call == SETTLE:
        return settle(graphs, numbers[0])
    if call == CLASSES:
        return classes(graphs, numbers[0], numbers[1])
    # Of the calls that WIDTHS knows, rounds alone is left.
    return rounds(graphs, numbers[0])


def answers(calls):
    """Answer a line of calls: for each in turn how many numbers it answers, then these."""
    graphs = [[], []]
    told = []
    at = 0
    while at < len(calls):
        call = calls[at]
        behind = at + 1 + WIDTHS[call]
        numbers = answer(graphs, call, calls[at + 1:behind])
        told.append(len(numbers))
        told.extend(numbers)
        at = behind
    return told
