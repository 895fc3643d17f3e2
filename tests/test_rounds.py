"""Point 8: rounds."""

import unittest

from tests.lines import (WRONG_GRAPHS, begin, beside, build, drawing, empty, full, graphs_after, last, many_shapes,
                         masked, path, ring, rounds, rounds_by_words, star)


def told(shape, g=0):
    return last([begin()] + build(g, shape) + [rounds(g)])


class Rounds(unittest.TestCase):
    def test_worked_out_by_hand(self):
        for shape in (empty(0), empty(1), path(2), empty(16), full(16), ring(16), beside(ring(3), ring(4))):
            self.assertEqual(told(shape), [0])
        self.assertEqual(told(path(3)), [1])
        self.assertEqual(told(star(16)), [1])
        self.assertEqual(told(beside(path(2), empty(1))), [1])
        self.assertEqual(told(drawing(6, [(0, 1), (1, 2), (2, 3), (3, 4), (2, 5)])), [2])

    def test_paths(self):
        # One deeper parts one more pair of points from the middle, as long as there is one.
        for n in range(1, 17):
            self.assertEqual(told(path(n)), [(n + 1) // 2 - 1])

    def test_many_graphs_by_the_words(self):
        for shape in many_shapes():
            for g in (0, 1):
                self.assertEqual(told(shape, g), [rounds_by_words(shape)])

    def test_all_graphs_of_up_to_four_points_and_some_of_six(self):
        shapes = [masked(n, mask) for n in range(5) for mask in range(1 << (n * (n - 1) // 2))]
        shapes += [masked(6, mask) for mask in range(0, 1 << 15, 173)]
        for shape in shapes:
            self.assertEqual(told(shape), [rounds_by_words(shape)])

    def test_the_other_graph_does_not_matter(self):
        for other in (empty(0), path(16), ring(5), star(4)):
            self.assertEqual(last([begin()] + build(0, path(5)) + build(1, other) + [rounds(0)]), [2])
            self.assertEqual(last([begin()] + build(0, other) + build(1, ring(5)) + [rounds(1)]), [0])

    def test_changes_nothing(self):
        calls = [begin()] + build(0, path(5)) + build(1, star(4)) + [rounds(0), rounds(1), rounds(2)]
        self.assertEqual(graphs_after(calls), (path(5), star(4)))

    def test_refuses_a_wrong_graph(self):
        calls = [begin()] + build(0, path(5)) + build(1, star(4))
        for g in WRONG_GRAPHS:
            self.assertEqual(last(calls + [rounds(g)]), [-1])


if __name__ == "__main__":
    unittest.main()
