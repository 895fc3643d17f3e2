"""Point 1: begin."""

import unittest

from tests.lines import begin, build, classes, degree, edge, empty, full, graph, graphs_after, last, path, ring, rounds


class Begin(unittest.TestCase):
    def test_answers_0(self):
        self.assertEqual(last([begin()]), [0])

    def test_both_graphs_have_no_points(self):
        self.assertEqual(graphs_after([begin()]), (empty(0), empty(0)))

    def test_a_later_begin_answers_0_and_empties_both_graphs(self):
        calls = [begin()] + build(0, ring(5)) + build(1, full(4)) + [begin()]
        self.assertEqual(last(calls), [0])
        self.assertEqual(graphs_after(calls), (empty(0), empty(0)))
        for g in (0, 1):
            self.assertEqual(last(calls + [classes(g, 16)]), [0])
            self.assertEqual(last(calls + [rounds(g)]), [0])
            self.assertEqual(last(calls + [degree(g, 0)]), [-1])
            self.assertEqual(last(calls + [edge(g, 0, 1)]), [-1])

    def test_begin_upon_begin(self):
        calls = [begin(), begin()] + build(0, path(3)) + [begin(), begin(), begin()]
        self.assertEqual(last(calls), [0])
        self.assertEqual(graphs_after(calls), (empty(0), empty(0)))

    def test_nothing_of_before_comes_back_with_new_points(self):
        calls = [begin()] + build(0, full(6)) + build(1, ring(6)) + [begin(), graph(0, 6), graph(1, 6)]
        self.assertEqual(graphs_after(calls), (empty(6), empty(6)))


if __name__ == "__main__":
    unittest.main()
