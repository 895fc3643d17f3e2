"""Point 6: settle."""

import unittest
from itertools import permutations

from tests.lines import (WRONG_GRAPHS, begin, beside, build, drawing, empty, form_by_words, full, graphs_after, last,
                         many_shapes, masked, one_graph_after, path, renamed, ring, scattered, settle, shuffled,
                         star)


def settled(shape, g=0):
    return one_graph_after([begin()] + build(g, shape) + [settle(g)], g)


class Settle(unittest.TestCase):
    def test_forms_worked_out_by_hand(self):
        self.assertEqual(settled(drawing(2, [(0, 1)])), drawing(2, [(0, 1)]))
        self.assertEqual(settled(drawing(3, [(0, 1)])), drawing(3, [(1, 2)]))
        self.assertEqual(settled(path(3)), drawing(3, [(0, 2), (1, 2)]))
        self.assertEqual(settled(star(4)), drawing(4, [(0, 3), (1, 3), (2, 3)]))
        self.assertEqual(settled(path(4)), drawing(4, [(0, 3), (1, 2), (2, 3)]))
        self.assertEqual(settled(ring(4)), drawing(4, [(0, 2), (0, 3), (1, 2), (1, 3)]))

    def test_all_graphs_of_up_to_five_points(self):
        for n in range(6):
            for mask in range(1 << (n * (n - 1) // 2)):
                self.assertEqual(settled(masked(n, mask)), form_by_words(masked(n, mask)))

    def test_graphs_of_six_points(self):
        for mask in range(0, 1 << 15, 211):
            self.assertEqual(settled(masked(6, mask), 1), form_by_words(masked(6, mask)))

    def test_graphs_of_seven_points(self):
        shapes = [masked(7, mask) for mask in range(77, 1 << 21, 100003)]
        shapes += [empty(7), full(7), path(7), ring(7), star(7), beside(ring(3), ring(4)), beside(path(3), full(4))]
        shapes += [scattered(7, percent, percent) for percent in (20, 35, 50, 65, 80)]
        for shape in shapes:
            self.assertEqual(settled(shape), form_by_words(shape))

    def test_graphs_that_are_the_same_settle_to_one_form(self):
        for shape in (path(4), ring(4), beside(path(3), empty(1)), scattered(4, 50, 3)):
            forms = {settled(renamed(shape, order)) for order in permutations(range(4))}
            self.assertEqual(len(forms), 1)
        for shape in (s for s in many_shapes() if s[0] in (6, 7)):
            forms = {settled(renamed(shape, shuffled(shape[0], seed)), seed % 2) for seed in range(12)}
            self.assertEqual(len(forms), 1)

    def test_graphs_that_are_not_the_same_settle_to_several(self):
        self.assertNotEqual(settled(ring(6)), settled(beside(ring(3), ring(3))))
        self.assertEqual(len({settled(masked(4, mask)) for mask in range(1 << 6)}), 11)
        self.assertEqual(len({settled(masked(5, mask)) for mask in range(1 << 10)}), 34)

    def test_a_form_settles_to_itself(self):
        for shape in (path(5), ring(7), star(6), scattered(7, 45, 9)):
            calls = [begin()] + build(0, shape) + [settle(0)]
            self.assertEqual(one_graph_after(calls + [settle(0)], 0), one_graph_after(calls, 0))

    def test_answers_0_and_the_other_graph_stays(self):
        calls = [begin()] + build(0, path(3)) + build(1, path(4))
        self.assertEqual(last(calls + [settle(0)]), [0])
        self.assertEqual(graphs_after(calls + [settle(0)]), (form_by_words(path(3)), path(4)))
        self.assertEqual(last(calls + [settle(1)]), [0])
        self.assertEqual(graphs_after(calls + [settle(1)]), (path(3), form_by_words(path(4))))
        self.assertEqual(last([begin(), settle(0)]), [0])
        self.assertEqual(graphs_after([begin(), settle(0)]), (empty(0), empty(0)))

    def test_refuses_a_wrong_graph_and_leaves_all_as_it_was(self):
        calls = [begin()] + build(0, path(3)) + build(1, path(4))
        for g in WRONG_GRAPHS:
            self.assertEqual(last(calls + [settle(g)]), [-1])
            self.assertEqual(graphs_after(calls + [settle(g)]), (path(3), path(4)))


if __name__ == "__main__":
    unittest.main()
