"""Point 4: degree."""

import unittest

from tests.lines import (GREATEST, LEAST, WRONG_GRAPHS, ask, begin, beside, build, degree, edge, empty, full, graph,
                         graphs_after, last, many_shapes, path, ring, star)


def degrees(g, shape):
    calls = [begin()] + build(g, shape)
    return [reply[0] for reply in ask(calls + [degree(g, u) for u in range(shape[0])])[len(calls):]]


class Degree(unittest.TestCase):
    def test_ordinary_points(self):
        self.assertEqual(degrees(0, path(4)), [1, 2, 2, 1])
        self.assertEqual(degrees(1, beside(star(4), empty(1), path(2))), [3, 1, 1, 1, 0, 1, 1])

    def test_no_neighbours(self):
        self.assertEqual(degrees(0, empty(1)), [0])
        self.assertEqual(degrees(1, empty(16)), [0] * 16)

    def test_fifteen_neighbours(self):
        self.assertEqual(degrees(0, star(16)), [15] + [1] * 15)
        self.assertEqual(degrees(1, full(16)), [15] * 16)

    def test_many_graphs(self):
        for shape in many_shapes():
            for g in (0, 1):
                self.assertEqual(degrees(g, shape), [sum(u in pair for pair in shape[1]) for u in range(shape[0])])

    def test_follows_what_is_made_and_parted(self):
        calls = [begin(), graph(0, 3), degree(0, 1), edge(0, 0, 1), degree(0, 1), edge(0, 2, 1), degree(0, 1),
                 edge(0, 1, 2), degree(0, 1), edge(0, 1, 0, 0), degree(0, 1), edge(0, 1, 0, 0), degree(0, 1)]
        self.assertEqual([reply for call, reply in zip(calls, ask(calls)) if call[0] == 3],
                         [[0], [1], [2], [2], [1], [1]])

    def test_changes_nothing(self):
        calls = [begin()] + build(0, ring(5)) + build(1, path(4)) + [degree(0, 1), degree(1, 9), degree(7, 0)]
        self.assertEqual(graphs_after(calls), (ring(5), path(4)))

    def test_refuses_a_wrong_graph(self):
        calls = [begin()] + build(0, ring(5)) + build(1, ring(5))
        for g in WRONG_GRAPHS:
            for u in (LEAST, -1, 0, 4, 5, GREATEST):
                self.assertEqual(last(calls + [degree(g, u)]), [-1])

    def test_refuses_a_point_that_there_is_not(self):
        calls = [begin()] + build(0, ring(5)) + build(1, ring(7))
        for u in (LEAST, -6, -5, -1, 5, 6, 7, 15, 16, GREATEST):
            self.assertEqual(last(calls + [degree(0, u)]), [-1])
        for u in (LEAST, -7, -1, 7, 8, GREATEST):
            self.assertEqual(last(calls + [degree(1, u)]), [-1])
        for u in (LEAST, -1, 0, 1, GREATEST):
            self.assertEqual(last([begin(), degree(0, u)]), [-1])


if __name__ == "__main__":
    unittest.main()
