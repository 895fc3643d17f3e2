"""Point 5: turn."""

import unittest

from tests.lines import (WRONG_GRAPHS, ask, begin, build, degree, drawing, empty, full, graph, graphs_after, last,
                         many_shapes, path, ring, star, turn, turned)


class Turn(unittest.TestCase):
    def test_graphs_without_and_with_all_edges(self):
        for n in (0, 1, 2, 5, 16):
            calls = [begin(), graph(0, n), turn(0)]
            self.assertEqual(last(calls), [0])
            self.assertEqual(graphs_after(calls), (full(n), empty(0)))
            self.assertEqual(graphs_after(calls + [turn(0)]), (empty(n), empty(0)))

    def test_ordinary_graphs(self):
        self.assertEqual(graphs_after([begin()] + build(0, path(4)) + [turn(0)])[0],
                         drawing(4, [(0, 2), (0, 3), (1, 3)]))
        self.assertEqual(graphs_after([begin()] + build(1, star(4)) + [turn(1)])[1],
                         drawing(4, [(1, 2), (1, 3), (2, 3)]))

    def test_many_graphs(self):
        for shape in many_shapes():
            calls = [begin()] + build(1, shape) + [turn(1)]
            self.assertEqual(graphs_after(calls), (empty(0), turned(shape)))

    def test_no_point_becomes_its_own_neighbour(self):
        for n in (1, 2, 7, 16):
            calls = [begin(), graph(0, n), turn(0)]
            self.assertEqual(ask(calls + [degree(0, u) for u in range(n)])[3:], [[n - 1]] * n)
            calls += [turn(0)]
            self.assertEqual(ask(calls + [degree(0, u) for u in range(n)])[4:], [[0]] * n)

    def test_turned_twice_it_is_as_it_was(self):
        for shape in many_shapes():
            calls = [begin()] + build(0, shape) + [turn(0), turn(0)]
            self.assertEqual(graphs_after(calls), (shape, empty(0)))

    def test_the_other_graph_stays(self):
        calls = [begin()] + build(0, ring(5)) + build(1, path(4))
        self.assertEqual(graphs_after(calls + [turn(0)]), (turned(ring(5)), path(4)))
        self.assertEqual(graphs_after(calls + [turn(1)]), (ring(5), turned(path(4))))

    def test_refuses_a_wrong_graph_and_leaves_all_as_it_was(self):
        calls = [begin()] + build(0, ring(5)) + build(1, path(4))
        for g in WRONG_GRAPHS:
            self.assertEqual(last(calls + [turn(g)]), [-1])
            self.assertEqual(graphs_after(calls + [turn(g)]), (ring(5), path(4)))


if __name__ == "__main__":
    unittest.main()
