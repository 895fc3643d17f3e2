"""Point 10: refined."""

import unittest

from tests.lines import (begin, beside, both, build, copies, drawing, empty, frucht, full, graphs_after, last,
                         many_shapes, masked, path, petersen, refined, refined_by_words, renamed, ring, rook,
                         scattered, shrikhande, shuffled, star, turned)


def told(first, second):
    return last(both(first, second) + [refined()])


class Refined(unittest.TestCase):
    def test_no_points(self):
        self.assertEqual(last([begin(), refined()]), [1])
        self.assertEqual(told(empty(0), empty(0)), [1])

    def test_different_numbers_of_points(self):
        self.assertEqual(told(empty(0), empty(1)), [0])
        self.assertEqual(told(empty(1), empty(0)), [0])
        self.assertEqual(told(empty(15), empty(16)), [0])
        self.assertEqual(told(ring(6), ring(3)), [0])
        self.assertEqual(told(ring(16), ring(8)), [0])
        self.assertEqual(last([begin()] + build(1, path(2)) + [refined()]), [0])

    def test_as_many_points_but_other_parts(self):
        self.assertEqual(told(empty(2), path(2)), [0])
        self.assertEqual(told(path(4), star(4)), [0])
        self.assertEqual(told(full(16), ring(16)), [0])
        # The same parts in each, but not as many in both.
        self.assertEqual(told(beside(path(2), path(2), empty(1)), beside(path(2), empty(3))), [0])
        # As many neighbours in both, and parted only deeper down.
        self.assertEqual(told(beside(path(4), path(2)), beside(path(3), path(3))), [0])
        self.assertEqual(told(beside(path(2), ring(3)), path(5)), [0])
        self.assertEqual(told(beside(path(7), path(9)), beside(path(8), path(8))), [0])

    def test_graphs_that_are_not_the_same_and_yet_refined(self):
        self.assertEqual(told(ring(6), beside(ring(3), ring(3))), [1])
        self.assertEqual(told(beside(ring(3), ring(3)), ring(6)), [1])
        self.assertEqual(told(ring(16), beside(ring(8), ring(8))), [1])
        self.assertEqual(told(ring(16), beside(ring(3), ring(13))), [1])
        self.assertEqual(told(beside(ring(4), ring(4)), beside(ring(3), ring(5))), [1])
        self.assertEqual(told(frucht(), copies(3, full(4))), [1])
        self.assertEqual(told(rook(), shrikhande()), [1])
        self.assertEqual(told(turned(ring(6)), turned(beside(ring(3), ring(3)))), [1])
        # Two rings of four that share an edge, and two of three joined by one.
        self.assertEqual(told(drawing(6, [(0, 1), (1, 2), (2, 3), (3, 4), (4, 5), (0, 5), (0, 3)]),
                              drawing(6, [(0, 1), (1, 2), (0, 2), (0, 3), (3, 4), (4, 5), (3, 5)])), [1])

    def test_graphs_that_are_the_same(self):
        for shape in many_shapes() + [petersen(), frucht()]:
            for seed in (1, 2):
                self.assertEqual(told(shape, renamed(shape, shuffled(shape[0], seed))), [1])

    def test_either_way_about(self):
        shapes = [empty(3), path(3), full(3), star(4), path(4), ring(4), beside(path(2), path(2)), empty(0)]
        for first in shapes:
            for second in shapes:
                self.assertEqual(told(first, second), told(second, first))
                self.assertEqual(told(first, second), [1 if first == second else 0])

    def test_many_pairs_by_the_words(self):
        shapes = [shape for shape in many_shapes() if shape[0] <= 9]
        for at in range(len(shapes)):
            for step in (1, 2, 9):
                first, second = shapes[at], shapes[(at + step) % len(shapes)]
                self.assertEqual(told(first, second), [refined_by_words(first, second)])

    def test_all_graphs_of_four_points_and_some_of_six_by_the_words(self):
        for first in range(1 << 6):
            for second in range(first % 3, 1 << 6, 3):
                shapes = masked(4, first), masked(4, second)
                self.assertEqual(told(*shapes), [refined_by_words(*shapes)])
        for at in range(0, 1 << 15, 301):
            shapes = masked(6, at), masked(6, (at * 5 + 7) % (1 << 15))
            self.assertEqual(told(*shapes), [refined_by_words(*shapes)])

    def test_large_graphs_by_the_words(self):
        for first, second in ((scattered(16, 30, 3), scattered(16, 30, 4)), (ring(16), beside(ring(4), ring(12))),
                              (path(16), beside(path(2), ring(14)))):
            self.assertEqual(told(first, second), [refined_by_words(first, second)])

    def test_changes_nothing(self):
        self.assertEqual(graphs_after(both(path(5), star(5)) + [refined()]), (path(5), star(5)))
        self.assertEqual(graphs_after(both(ring(6), copies(2, ring(3))) + [refined()]), (ring(6), copies(2, ring(3))))


if __name__ == "__main__":
    unittest.main()
