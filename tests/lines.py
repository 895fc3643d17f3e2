"""The tests' one helper: lines of calls, graphs to try, and the document's words written out plainly."""

from functools import lru_cache
from itertools import combinations, permutations

from graphsame.graphs import answers

LEAST = -2147483648
GREATEST = 2147483647

WRONG_GRAPHS = (LEAST, -2, -1, 2, 3, 16, GREATEST)
TRIED_MOSTS = (LEAST, -1, 0, 1, 2, 3, 6, 7, 8, 15, 16, 17, 18, GREATEST)


# The calls, as the interface writes them.

def begin():
    return [0]


def graph(g, n):
    return [1, g, n]


def edge(g, u, v, on=1):
    return [2, g, u, v, on]


def degree(g, u):
    return [3, g, u]


def turn(g):
    return [4, g]


def settle(g):
    return [5, g]


def classes(g, most):
    return [6, g, most]


def rounds(g):
    return [7, g]


def build(g, drawing):
    """The calls that make graph g the drawing, which is how many points it has and its edges."""
    n, edges = drawing
    return [graph(g, n)] + [edge(g, u, v) for u, v in sorted(edges)]


def flat(calls):
    return [number for call in calls for number in call]


def split(told):
    """What is given back, answer by answer."""
    found = []
    at = 0
    while at < len(told):
        behind = at + 1 + told[at]
        if told[at] < 1 or behind > len(told):
            raise AssertionError(f"no answer's length at {at} of {told}")
        found.append(told[at + 1:behind])
        at = behind
    return found


def ask(calls):
    """The answers to a line of calls, one list for each call."""
    if len(calls) > 400 or calls[0] != begin():
        raise AssertionError("no line of calls")
    found = split(answers(flat(calls)))
    if len(found) != len(calls):
        raise AssertionError(f"{len(found)} answers to {len(calls)} calls")
    return found


def last(calls):
    """The answer to the last call of the line."""
    return ask(calls)[-1]


def one_graph_after(calls, g):
    """How many points graph g has after the calls, and its edges.

    Each pair is parted in turn: where that lessens the degree, they were neighbours.
    """
    n = last(calls + [classes(g, 0)])[0]
    pairs = []
    reading = []
    for u in range(n):
        reading.append(degree(g, u))
        for v in range(u + 1, n):
            pairs.append((u, v))
            reading.append(edge(g, u, v, 0))
            reading.append(degree(g, u))
    degrees = [reply[0] for call, reply in zip(reading, ask(calls + reading)[len(calls):]) if call[0] == 3]
    edges = []
    at = 0
    for u in range(n):
        for v in range(u + 1, n):
            if degrees[at + 1] != degrees[at]:
                edges.append((u, v))
            at += 1
        if degrees[at] != 0:
            raise AssertionError(f"point {u} has neighbours with all edges taken away")
        at += 1
    return n, tuple(edges)


def graphs_after(calls):
    """Both graphs as they are after the calls."""
    return one_graph_after(calls, 0), one_graph_after(calls, 1)


# Graphs to try: how many points, then the pairs that are neighbours, the lesser first.

def drawing(n, edges):
    return n, tuple(sorted((min(u, v), max(u, v)) for u, v in edges))


def empty(n):
    return drawing(n, [])


def full(n):
    return drawing(n, combinations(range(n), 2))


def path(n):
    return drawing(n, [(u, u + 1) for u in range(n - 1)])


def ring(n):
    return drawing(n, [(u, (u + 1) % n) for u in range(n)])


def star(n):
    return drawing(n, [(0, u) for u in range(1, n)])


def beside(*drawings):
    """Several drawings as the pieces of one."""
    n = 0
    edges = []
    for size, piece in drawings:
        edges.extend((u + n, v + n) for u, v in piece)
        n += size
    return drawing(n, edges)


def turned(shape):
    n, edges = shape
    return drawing(n, [pair for pair in combinations(range(n), 2) if pair not in set(edges)])


def renamed(shape, order):
    """The same graph, point u being called order[u]."""
    n, edges = shape
    return drawing(n, [(order[u], order[v]) for u, v in edges])


def numbers_from(seed):
    """Endless numbers from 0 to 65535, always the same ones for a seed."""
    state = seed
    while True:
        state = (state * 1103515245 + 12345) % (1 << 31)
        yield state >> 15


def shuffled(n, seed):
    found = numbers_from(seed)
    return sorted(range(n), key=lambda point: (next(found), point))


def scattered(n, percent, seed):
    """A graph of n points without a rule, about so many of a hundred pairs being neighbours."""
    found = numbers_from(seed)
    return drawing(n, [pair for pair in combinations(range(n), 2) if next(found) % 100 < percent])


def masked(n, mask):
    """The graph of n points whose pairs are neighbours where the mask's bits are 1."""
    pairs = list(combinations(range(n), 2))
    return drawing(n, [pairs[k] for k in range(len(pairs)) if mask >> k & 1])


def many_shapes():
    """Graphs of 0 to 16 points: without and with all edges, paths, rings, stars, in pieces, and without a rule."""
    found = [empty(0), empty(1), empty(2), path(2), empty(16), full(16), path(16), ring(16), star(16), star(5)]
    found += [full(n) for n in (3, 6)] + [path(n) for n in range(3, 16)] + [ring(n) for n in range(3, 9)]
    found += [beside(ring(3), ring(4)), beside(path(3), empty(2), path(3)), beside(ring(8), ring(5), ring(3))]
    found += [beside(path(7), path(8)), beside(star(4), star(5), path(2)), beside(full(4), ring(4), empty(4))]
    found += [drawing(16, [(u, v) for u, v in combinations(range(16), 2) if bin(u ^ v).count("1") == 1])]
    found += [drawing(15, [((u - 1) // 2, u) for u in range(1, 15)])]
    found += [drawing(10, [(u, (u + 1) % 5) for u in range(5)] + [(u, u + 5) for u in range(5)]
                      + [(u + 5, (u + 2) % 5 + 5) for u in range(5)])]
    found += [drawing(16, [(0, 2)] + [(u, u + 1) for u in range(15)])]
    found += [scattered(n, percent, 7 * n + percent) for n in (4, 6, 9, 12, 16) for percent in (15, 40, 80)]
    found += [renamed(shape, shuffled(shape[0], 5)) for shape in list(found)]
    found += [turned(shape) for shape in (path(16), beside(ring(3), ring(4)), star(7))]
    return found


# The words of the document, followed as they stand.

@lru_cache(maxsize=None)
def alike_by_depth(shape):
    """For each depth from 0 to beyond the points: which pairs of points of the graph are alike so deep."""
    n, edges = shape
    near = [[v for v in range(n) if (min(u, v), max(u, v)) in edges] for u in range(n)]
    alike = {(u, v): True for u in range(n) for v in range(n)}
    found = [alike]
    for depth in range(n + 2):
        count = [[sum(alike[v, w] for v in near[u]) for w in range(n)] for u in range(n)]
        alike = {(u, v): alike[u, v] and all(count[u][w] == count[v][w] for w in range(n))
                 for u in range(n) for v in range(n)}
        found.append(alike)
    return found


def classes_by_words(shape):
    deepest = alike_by_depth(shape)[-1]
    return [min(v for v in range(shape[0]) if deepest[u, v]) for u in range(shape[0])]


def rounds_by_words(shape):
    levels = alike_by_depth(shape)
    return min(k for k in range(len(levels) - 1)
               if all(levels[k + 1][pair] for pair in levels[k] if levels[k][pair]))


@lru_cache(maxsize=None)
def form_by_words(shape):
    """The graph with the least code of those that any order of the points makes of this one."""
    n, edges = shape
    near = [[int((min(u, v), max(u, v)) in edges) for v in range(n)] for u in range(n)]
    least = None
    for order in permutations(range(n)):
        code = [near[order[u]][order[v]] for u in range(1, n) for v in range(u)]
        if least is None or code < least:
            least = code
    places = [(v, u) for u in range(1, n) for v in range(u)]
    return drawing(n, [pair for pair, mark in zip(places, least) if mark])


class Plain:
    """Two graphs that answer the calls by the document's words, slowly and plainly."""

    def __init__(self):
        self.shapes = [empty(0), empty(0)]

    def answer(self, call):
        number, given = call[0], call[1:]
        if number == 0:
            self.shapes = [empty(0), empty(0)]
            return [0]
        g = given[0]
        if g not in (0, 1):
            return [-1]
        n, edges = self.shapes[g]
        if number == 1:
            return self.make_graph(g, given[1])
        if number == 2:
            return self.make_edge(g, given[1], given[2], given[3])
        if number == 3:
            return [sum(given[1] in pair for pair in edges)] if given[1] in range(n) else [-1]
        if number == 4:
            self.shapes[g] = turned(self.shapes[g])
            return [0]
        if number == 5:
            self.shapes[g] = form_by_words(self.shapes[g])
            return [0]
        if number == 6:
            return [n] + (classes_by_words(self.shapes[g])[:given[1]] if 1 <= given[1] <= 16 else [])
        return [rounds_by_words(self.shapes[g])]

    def make_graph(self, g, n):
        if n not in range(17):
            return [-1]
        self.shapes[g] = empty(n)
        return [0]

    def make_edge(self, g, u, v, on):
        n, edges = self.shapes[g]
        if u not in range(n) or v not in range(n) or u == v:
            return [-1]
        left = [pair for pair in edges if set(pair) != {u, v}]
        self.shapes[g] = drawing(n, left + ([(u, v)] if on != 0 else []))
        return [0]


def told_by_words(calls):
    """What is to be given back for a line of calls."""
    plain = Plain()
    told = []
    for call in calls:
        reply = plain.answer(call)
        told += [len(reply)] + reply
    return told
