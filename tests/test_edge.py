"""Point 3: edge."""

import unittest
from itertools import permutations

from tests.lines import (GREATEST, LEAST, WRONG_GRAPHS, begin, build, drawing, edge, empty, full, graph,
                         graphs_after, last, path, ring, star)


class Edge(unittest.TestCase):
    def test_any_number_but_0_makes_neighbours(self):
        for on in (LEAST, -2, -1, 1, 2, 7, 256, GREATEST):
            calls = [begin(), graph(0, 4), edge(0, 1, 3, on)]
            self.assertEqual(last(calls), [0])
            self.assertEqual(graphs_after(calls)[0], drawing(4, [(1, 3)]))

    def test_0_parts_neighbours(self):
        calls = [begin()] + build(0, ring(4)) + [edge(0, 0, 3, 0)]
        self.assertEqual(last(calls), [0])
        self.assertEqual(graphs_after(calls)[0], path(4))

    def test_0_of_those_that_are_not_neighbours_changes_nothing(self):
        calls = [begin()] + build(0, path(4)) + [edge(0, 0, 3, 0)]
        self.assertEqual(last(calls), [0])
        self.assertEqual(graphs_after(calls)[0], path(4))

    def test_neighbours_made_neighbours_again_are_so_once(self):
        calls = [begin()] + build(0, path(3)) + [edge(0, 0, 1, 5), edge(0, 1, 0, -5)]
        self.assertEqual(graphs_after(calls)[0], path(3))
        self.assertEqual(graphs_after(calls + [edge(0, 0, 1, 0)])[0], drawing(3, [(1, 2)]))

    def test_both_ways_round(self):
        for u, v in permutations(range(5), 2):
            calls = [begin(), graph(1, 5), edge(1, u, v)]
            self.assertEqual(graphs_after(calls), (empty(0), drawing(5, [(u, v)])))
            self.assertEqual(graphs_after(calls + [edge(1, v, u, 0)]), (empty(0), empty(5)))

    def test_all_pairs_of_sixteen_points(self):
        self.assertEqual(graphs_after([begin()] + build(0, full(16)))[0], full(16))
        calls = [begin()] + build(0, full(15)) + [edge(0, 14, 13, 0)]
        self.assertEqual(graphs_after(calls)[0], drawing(15, [pair for pair in full(15)[1] if pair != (13, 14)]))

    def test_one_graph_changes_nothing_of_the_other(self):
        calls = [begin()] + build(0, ring(5)) + build(1, star(5))
        self.assertEqual(graphs_after(calls), (ring(5), star(5)))
        self.assertEqual(graphs_after(calls + [edge(0, 0, 2)])[1], star(5))
        self.assertEqual(graphs_after(calls + [edge(1, 0, 1, 0)])[0], ring(5))

    def assert_refused(self, calls, refused, shapes):
        self.assertEqual(last(calls + [refused]), [-1])
        self.assertEqual(graphs_after(calls + [refused]), shapes)

    def test_refuses_a_wrong_graph(self):
        calls = [begin()] + build(0, path(4)) + build(1, path(5))
        for g in WRONG_GRAPHS:
            for on in (0, 1):
                self.assert_refused(calls, edge(g, 0, 1, on), (path(4), path(5)))
                self.assert_refused(calls, edge(g, 0, 2, on), (path(4), path(5)))

    def test_refuses_points_that_there_are_not(self):
        calls = [begin()] + build(0, path(4)) + build(1, path(5))
        for missing in (LEAST, -5, -4, -1, 4, 5, 15, 16, GREATEST):
            for on in (0, 1):
                for there in (0, 2):
                    self.assert_refused(calls, edge(0, there, missing, on), (path(4), path(5)))
                    self.assert_refused(calls, edge(0, missing, there, on), (path(4), path(5)))
            self.assert_refused(calls, edge(0, missing, missing), (path(4), path(5)))

    def test_refuses_points_that_only_the_other_graph_has(self):
        calls = [begin()] + build(0, path(4)) + build(1, path(5))
        self.assert_refused(calls, edge(0, 0, 4), (path(4), path(5)))
        self.assertEqual(last(calls + [edge(1, 0, 4)]), [0])

    def test_refuses_a_point_with_itself(self):
        calls = [begin()] + build(0, path(4)) + build(1, path(5))
        for u in range(4):
            for on in (0, 1, -1):
                self.assert_refused(calls, edge(0, u, u, on), (path(4), path(5)))

    def test_refuses_all_of_a_graph_without_points_or_with_one(self):
        for n in (0, 1):
            for u in (-1, 0, 1):
                for v in (-1, 0, 1):
                    self.assert_refused([begin(), graph(0, n)], edge(0, u, v), (empty(n), empty(0)))


if __name__ == "__main__":
    unittest.main()
