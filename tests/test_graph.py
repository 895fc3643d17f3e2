"""Point 2: graph."""

import unittest

from tests.lines import (GREATEST, LEAST, WRONG_GRAPHS, begin, build, classes, degree, empty, full, graph,
                         graphs_after, last, path, ring)


class Graph(unittest.TestCase):
    def test_every_size(self):
        for g in (0, 1):
            for n in range(17):
                calls = [begin(), graph(g, n)]
                self.assertEqual(last(calls), [0])
                self.assertEqual(graphs_after(calls)[g], empty(n))
                self.assertEqual(graphs_after(calls)[1 - g], empty(0))

    def test_no_points_and_one_and_sixteen(self):
        self.assertEqual(last([begin(), graph(0, 0), degree(0, 0)]), [-1])
        self.assertEqual(last([begin(), graph(0, 1), degree(0, 0)]), [0])
        self.assertEqual(last([begin(), graph(0, 1), degree(0, 1)]), [-1])
        self.assertEqual(last([begin(), graph(1, 16), degree(1, 15)]), [0])
        self.assertEqual(last([begin(), graph(1, 16), degree(1, 16)]), [-1])
        self.assertEqual(last([begin(), graph(1, 16), classes(1, 0)]), [16])

    def test_refuses_a_wrong_size_and_leaves_all_as_it_was(self):
        calls = [begin()] + build(0, ring(5)) + build(1, path(4))
        for g in (0, 1):
            for n in (LEAST, -17, -2, -1, 17, 18, 100, GREATEST):
                self.assertEqual(last(calls + [graph(g, n)]), [-1])
                self.assertEqual(graphs_after(calls + [graph(g, n)]), (ring(5), path(4)))

    def test_refuses_a_wrong_graph_and_leaves_all_as_it_was(self):
        calls = [begin()] + build(0, ring(5)) + build(1, path(4))
        for g in WRONG_GRAPHS:
            for n in (LEAST, -1, 0, 3, 16, 17, GREATEST):
                self.assertEqual(last(calls + [graph(g, n)]), [-1])
            self.assertEqual(graphs_after(calls + [graph(g, 3)]), (ring(5), path(4)))

    def test_a_graph_that_has_points_and_neighbours_already(self):
        for n in (0, 1, 3, 5, 6, 16):
            calls = [begin()] + build(0, full(5)) + build(1, path(4)) + [graph(0, n)]
            self.assertEqual(last(calls), [0])
            self.assertEqual(graphs_after(calls), (empty(n), path(4)))

    def test_neighbours_do_not_come_back_with_the_points(self):
        calls = [begin()] + build(1, full(6)) + [graph(1, 2), graph(1, 6)]
        self.assertEqual(graphs_after(calls), (empty(0), empty(6)))


if __name__ == "__main__":
    unittest.main()
