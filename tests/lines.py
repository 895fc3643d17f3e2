"""The tests' one helper: lines of calls, graphs to try, and the document's words written out plainly."""

import contextlib
import signal
from functools import lru_cache
from itertools import combinations, permutations

from graphsame.graphs import answers

LEAST = -2147483648
GREATEST = 2147483647

WRONG_GRAPHS = (LEAST, -2, -1, 2, 3, 16, GREATEST)
TRIED_MOSTS = (LEAST, -1, 0, 1, 2, 3, 6, 7, 8, 15, 16, 17, 18, GREATEST)
NO_POINTS = (LEAST, -16, -1, 16, 17, GREATEST)
WRONG_STEPS = (LEAST, -64, -2, -1, 65, 66, 128, GREATEST)
LIMIT = 1 << 64


# The calls, as the interface writes them.

def begin():
    return [0]


def graph(g, n):
    return [1, g, n]


def edge(g, u, v, on=1):
    return [2, g, u, v, on]


def degree(g, u):
    return [3, g, u]


def turn(g):
    return [4, g]


def settle(g):
    return [5, g]


def classes(g, most):
    return [6, g, most]


def rounds(g):
    return [7, g]


def apart(u, v):
    return [8, u, v]


def refined():
    return [9]


def same(most):
    return [10, most]


def movings(g):
    return [11, g]


def orbits(g, most):
    return [12, g, most]


def walks(g, k):
    return [13, g, k]


def circles(g, k):
    return [14, g, k]


def trees(g, hung):
    return [15, g, len(hung)] + list(hung)


def build(g, drawing):
    """The calls that make graph g the drawing, which is how many points it has and its edges."""
    n, edges = drawing
    return [graph(g, n)] + [edge(g, u, v) for u, v in sorted(edges)]


def flat(calls):
    return [number for call in calls for number in call]


def split(told):
    """What is given back, answer by answer."""
    found = []
    at = 0
    while at < len(told):
        behind = at + 1 + told[at]
        if told[at] < 1 or behind > len(told):
            raise AssertionError(f"no answer's length at {at} of {told}")
        found.append(told[at + 1:behind])
        at = behind
    return found


def ask(calls):
    """The answers to a line of calls, one list for each call."""
    if len(calls) > 400 or calls[0] != begin():
        raise AssertionError("no line of calls")
    found = split(answers(flat(calls)))
    if len(found) != len(calls):
        raise AssertionError(f"{len(found)} answers to {len(calls)} calls")
    return found


def last(calls):
    """The answer to the last call of the line."""
    return ask(calls)[-1]


def both(first, second):
    """The calls that begin and make graph 0 the first drawing and graph 1 the second."""
    return [begin()] + build(0, first) + build(1, second)


@contextlib.contextmanager
def soon(seconds):
    """Fails what takes longer than so many seconds, where the system has alarms."""
    def late(number, frame):
        raise AssertionError(f"no answer within {seconds} seconds")

    if not hasattr(signal, "SIGALRM"):
        yield
        return
    before = signal.signal(signal.SIGALRM, late)
    signal.alarm(seconds)
    try:
        yield
    finally:
        signal.alarm(0)
        signal.signal(signal.SIGALRM, before)


def one_graph_after(calls, g):
    """How many points graph g has after the calls, and its edges.

    Each pair is parted in turn: where that lessens the degree, they were neighbours.
    """
    n = last(calls + [classes(g, 0)])[0]
    pairs = []
    reading = []
    for u in range(n):
        reading.append(degree(g, u))
        for v in range(u + 1, n):
            pairs.append((u, v))
            reading.append(edge(g, u, v, 0))
            reading.append(degree(g, u))
    degrees = [reply[0] for call, reply in zip(reading, ask(calls + reading)[len(calls):]) if call[0] == 3]
    edges = []
    at = 0
    for u in range(n):
        for v in range(u + 1, n):
            if degrees[at + 1] != degrees[at]:
                edges.append((u, v))
            at += 1
        if degrees[at] != 0:
            raise AssertionError(f"point {u} has neighbours with all edges taken away")
        at += 1
    return n, tuple(edges)


def graphs_after(calls):
    """Both graphs as they are after the calls."""
    return one_graph_after(calls, 0), one_graph_after(calls, 1)


# Graphs to try: how many points, then the pairs that are neighbours, the lesser first.

def drawing(n, edges):
    return n, tuple(sorted((min(u, v), max(u, v)) for u, v in edges))


def empty(n):
    return drawing(n, [])


def full(n):
    return drawing(n, combinations(range(n), 2))


def path(n):
    return drawing(n, [(u, u + 1) for u in range(n - 1)])


def ring(n):
    return drawing(n, [(u, (u + 1) % n) for u in range(n)])


def star(n):
    return drawing(n, [(0, u) for u in range(1, n)])


def beside(*drawings):
    """Several drawings as the pieces of one."""
    n = 0
    edges = []
    for size, piece in drawings:
        edges.extend((u + n, v + n) for u, v in piece)
        n += size
    return drawing(n, edges)


def turned(shape):
    n, edges = shape
    return drawing(n, [pair for pair in combinations(range(n), 2) if pair not in set(edges)])


def renamed(shape, order):
    """The same graph, point u being called order[u]."""
    n, edges = shape
    return drawing(n, [(order[u], order[v]) for u, v in edges])


def between(first, second):
    """Two parts of so many points, all of the one joined with all of the other."""
    return drawing(first + second, [(u, first + v) for u in range(first) for v in range(second)])


def copies(count, shape):
    return beside(*[shape] * count)


def rook():
    """Four by four points, each the neighbour of those in its row and column."""
    return drawing(16, [(u, v) for u, v in combinations(range(16), 2) if u // 4 == v // 4 or u % 4 == v % 4])


def shrikhande():
    """Of as many neighbours as in rook, two points have as many in common as there, yet it isn't the same graph."""
    steps = ((0, 1), (1, 0), (1, 1))
    return drawing(16, [(4 * row + column, (row + down) % 4 * 4 + (column + right) % 4)
                        for row in range(4) for column in range(4) for down, right in steps])


def cube():
    """The corners of a cube of four dimensions."""
    return drawing(16, [(u, v) for u, v in combinations(range(16), 2) if bin(u ^ v).count("1") == 1])


def folded_cube():
    """The corners of a cube of five dimensions, those opposite being one point."""
    return drawing(16, [(u, v) for u, v in combinations(range(16), 2) if bin(u ^ v).count("1") in (1, 4)])


def petersen():
    return drawing(10, [(u, (u + 1) % 5) for u in range(5)] + [(u, u + 5) for u in range(5)]
                   + [(u + 5, (u + 2) % 5 + 5) for u in range(5)])


def frucht():
    """Twelve points of three neighbours each, with no moving but the one that moves nothing."""
    return drawing(12, [(0, 1), (1, 2), (2, 3), (3, 4), (4, 5), (5, 6), (0, 6), (0, 7), (1, 7), (2, 8), (3, 9),
                        (4, 9), (5, 10), (6, 10), (7, 11), (8, 11), (8, 9), (10, 11)])


def circulant(n, steps):
    """A circle of n points, each the neighbour of those so many steps away."""
    return drawing(n, {(min(u, (u + step) % n), max(u, (u + step) % n)) for u in range(n) for step in steps})


def numbers_from(seed):
    """Endless numbers from 0 to 65535, always the same ones for a seed."""
    state = seed
    while True:
        state = (state * 1103515245 + 12345) % (1 << 31)
        yield state >> 15


def shuffled(n, seed):
    found = numbers_from(seed)
    return sorted(range(n), key=lambda point: (next(found), point))


def scattered(n, percent, seed):
    """A graph of n points without a rule, about so many of a hundred pairs being neighbours."""
    found = numbers_from(seed)
    return drawing(n, [pair for pair in combinations(range(n), 2) if next(found) % 100 < percent])


def masked(n, mask):
    """The graph of n points whose pairs are neighbours where the mask's bits are 1."""
    pairs = list(combinations(range(n), 2))
    return drawing(n, [pairs[k] for k in range(len(pairs)) if mask >> k & 1])


def many_shapes():
    """Graphs of 0 to 16 points: without and with all edges, paths, rings, stars, in pieces, and without a rule."""
    found = [empty(0), empty(1), empty(2), path(2), empty(16), full(16), path(16), ring(16), star(16), star(5)]
    found += [full(n) for n in (3, 6)] + [path(n) for n in range(3, 16)] + [ring(n) for n in range(3, 9)]
    found += [beside(ring(3), ring(4)), beside(path(3), empty(2), path(3)), beside(ring(8), ring(5), ring(3))]
    found += [beside(path(7), path(8)), beside(star(4), star(5), path(2)), beside(full(4), ring(4), empty(4))]
    found += [cube()]
    found += [drawing(15, [((u - 1) // 2, u) for u in range(1, 15)])]
    found += [petersen()]
    found += [drawing(16, [(0, 2)] + [(u, u + 1) for u in range(15)])]
    found += [scattered(n, percent, 7 * n + percent) for n in (4, 6, 9, 12, 16) for percent in (15, 40, 80)]
    found += [renamed(shape, shuffled(shape[0], 5)) for shape in list(found)]
    found += [turned(shape) for shape in (path(16), beside(ring(3), ring(4)), star(7))]
    return found


# The words of the document, followed as they stand.

@lru_cache(maxsize=None)
def alike_by_depth(shape):
    """For each depth from 0 to beyond the points: which pairs of points of the graph are alike so deep."""
    n, edges = shape
    near = [[v for v in range(n) if (min(u, v), max(u, v)) in edges] for u in range(n)]
    alike = {(u, v): True for u in range(n) for v in range(n)}
    found = [alike]
    for depth in range(n + 2):
        count = [[sum(alike[v, w] for v in near[u]) for w in range(n)] for u in range(n)]
        alike = {(u, v): alike[u, v] and all(count[u][w] == count[v][w] for w in range(n))
                 for u in range(n) for v in range(n)}
        found.append(alike)
    return found


def classes_by_words(shape):
    deepest = alike_by_depth(shape)[-1]
    return [min(v for v in range(shape[0]) if deepest[u, v]) for u in range(shape[0])]


def rounds_by_words(shape):
    levels = alike_by_depth(shape)
    return min(k for k in range(len(levels) - 1)
               if all(levels[k + 1][pair] for pair in levels[k] if levels[k][pair]))


@lru_cache(maxsize=None)
def form_by_words(shape):
    """The graph with the least code of those that any order of the points makes of this one."""
    n, edges = shape
    near = [[int((min(u, v), max(u, v)) in edges) for v in range(n)] for u in range(n)]
    least = None
    for order in permutations(range(n)):
        code = [near[order[u]][order[v]] for u in range(1, n) for v in range(u)]
        if least is None or code < least:
            least = code
    places = [(v, u) for u in range(1, n) for v in range(u)]
    return drawing(n, [pair for pair, mark in zip(places, least) if mark])


@lru_cache(maxsize=None)
def alike_across(first, second):
    """For each depth from 0 on, up to the first that the next is equal to: which points (g, u) are alike so deep."""
    shapes = (first, second)
    points = [(g, u) for g in (0, 1) for u in range(shapes[g][0])]
    near = {(g, u): [(g, v) for v in range(shapes[g][0]) if (min(u, v), max(u, v)) in shapes[g][1]] for g, u in points}
    pairs = [(one, other) for one in points for other in points]
    alike = {pair: True for pair in pairs}
    found = [alike]
    while True:
        count = {(one, point): sum(alike[other, point] for other in near[one]) for one in points for point in points}
        alike = {(one, other): alike[one, other] and all(count[one, point] == count[other, point] for point in points
                                                         if point[0] in (one[0], other[0]))
                 for one, other in pairs}
        if alike == found[-1]:
            return found
        found.append(alike)


def apart_by_words(first, second, u, v):
    levels = alike_across(first, second)
    return min([k for k in range(len(levels)) if not levels[k][(0, u), (1, v)]], default=-2)


def refined_by_words(first, second):
    if first[0] != second[0]:
        return 0
    deepest = alike_across(first, second)[-1]
    for point in [(g, u) for g in (0, 1) for u in range(first[0])]:
        count = [sum(deepest[point, (g, v)] for v in range(first[0])) for g in (0, 1)]
        if count[0] != count[1]:
            return 0
    return 1


@lru_cache(maxsize=None)
def maps_by_words(first, second):
    """All maps of the one graph onto the other, where each point is put."""
    if first[0] != second[0]:
        return []
    return [order for order in permutations(range(first[0])) if renamed(first, order) == second]


def same_by_words(first, second):
    """Where the first map puts each point; None if there is none."""
    maps = maps_by_words(first, second)
    return list(min(maps)) if maps else None


def movings_by_words(shape):
    return len(maps_by_words(shape, shape))


def orbits_by_words(shape):
    return [min(order[u] for order in maps_by_words(shape, shape)) for u in range(shape[0])]


def distances(shape):
    """How many steps lead from each point to each, 99 if none do."""
    n, edges = shape
    found = [[0 if u == v else 1 if (min(u, v), max(u, v)) in edges else 99 for v in range(n)] for u in range(n)]
    for over in range(n):
        for u in range(n):
            for v in range(n):
                found[u][v] = min(found[u][v], found[u][over] + found[over][v])
    return [[min(99, steps) for steps in row] for row in found]


def maps_by_trying(first, second):
    """The maps of the one graph onto the other, first ones first, put point by point.

    Since neighbours come to be neighbours, and no others, points come to be as far from one another as they were.
    """
    n = first[0]
    if second[0] != n:
        return
    here, there = distances(first), distances(second)

    def go_on(images):
        u = len(images)
        if u == n:
            yield list(images)
            return
        for v in range(n):
            if v not in images and all(here[u][w] == there[v][images[w]] for w in range(u)):
                yield from go_on(images + [v])

    yield from go_on([])


def walks_by_words(shape, k):
    """For each point and each how many ways of k steps lead from the one to the other, not modulo anything."""
    n, edges = shape
    near = [[v for v in range(n) if (min(u, v), max(u, v)) in edges] for u in range(n)]
    ways = [[int(u == v) for v in range(n)] for u in range(n)]
    for step in range(k):
        ways = [[sum(row[w] for w in near[v]) for v in range(n)] for row in ways]
    return ways


def trees_by_words(shape, hung):
    """How often the tree lies in the graph, not modulo anything: what hangs on a point is put wherever it may."""
    n, edges = shape
    near = [[v for v in range(n) if (min(u, v), max(u, v)) in edges] for u in range(n)]

    @lru_cache(maxsize=None)
    def ways_below(point, place):
        ways = 1
        for below in [i + 1 for i in range(len(hung)) if hung[i] == point]:
            ways *= sum(ways_below(below, other) for other in near[place])
        return ways

    return sum(ways_below(0, place) for place in range(n))


def first_of(numbers, most):
    """The first most of the numbers, none of most outside 1 to 16."""
    return [number for at, number in enumerate(numbers) if 1 <= most <= 16 and at < most]


class Plain:
    """Two graphs that answer the calls by the document's words, slowly and plainly."""

    def __init__(self):
        self.shapes = [empty(0), empty(0)]

    def answer(self, call):
        number, given = call[0], call[1:]
        if number == 0:
            self.shapes = [empty(0), empty(0)]
            return [0]
        if number in (8, 9, 10):
            return self.ask_both(number, given)
        if given[0] not in (0, 1):
            return [-1]
        if number in (1, 2, 4, 5):
            return self.change(number, given[0], given[1:])
        if number in (11, 12, 13, 14, 15):
            return self.count(number, self.shapes[given[0]], given[1:])
        return self.look(number, self.shapes[given[0]], given[1:])

    def change(self, number, g, given):
        if number == 1:
            return self.make_graph(g, given[0])
        if number == 2:
            return self.make_edge(g, given[0], given[1], given[2])
        self.shapes[g] = turned(self.shapes[g]) if number == 4 else form_by_words(self.shapes[g])
        return [0]

    def make_graph(self, g, n):
        if n not in range(17):
            return [-1]
        self.shapes[g] = empty(n)
        return [0]

    def make_edge(self, g, u, v, on):
        n, edges = self.shapes[g]
        if u not in range(n) or v not in range(n) or u == v:
            return [-1]
        left = [pair for pair in edges if set(pair) != {u, v}]
        self.shapes[g] = drawing(n, left + ([(u, v)] if on != 0 else []))
        return [0]

    def look(self, number, shape, given):
        n, edges = shape
        if number == 3:
            return [sum(given[0] in pair for pair in edges)] if given[0] in range(n) else [-1]
        if number == 6:
            return [n] + first_of(classes_by_words(shape), given[0])
        return [rounds_by_words(shape)]

    def ask_both(self, number, given):
        first, second = self.shapes
        if number == 8:
            if given[0] not in range(first[0]) or given[1] not in range(second[0]):
                return [-1]
            return [apart_by_words(first, second, given[0], given[1])]
        if number == 9:
            return [refined_by_words(first, second)]
        images = same_by_words(first, second)
        return [-2] if images is None else [first[0]] + first_of(images, given[0])

    def count(self, number, shape, given):
        if number == 11:
            return [0, movings_by_words(shape)]
        if number == 12:
            return [shape[0]] + first_of(orbits_by_words(shape), given[0])
        if number == 15:
            hung = given[1:]
            if any(hung[i] not in range(i + 1) for i in range(len(hung))):
                return [-1]
            return [0, trees_by_words(shape, hung) % LIMIT]
        if given[0] not in range(65):
            return [-1]
        ways = walks_by_words(shape, given[0])
        counted = [ways[u][v] for u in range(shape[0]) for v in range(shape[0]) if number == 13 or u == v]
        return [0, sum(counted) % LIMIT]


def told_by_words(calls):
    """What is to be given back for a line of calls."""
    plain = Plain()
    told = []
    for call in calls:
        reply = plain.answer(call)
        told += [len(reply)] + reply
    return told
