"""Point 12: movings."""

import unittest
from math import factorial

from tests.lines import (WRONG_GRAPHS, begin, beside, between, both, build, circulant, copies, cube, drawing, empty,
                         folded_cube, frucht, full, graphs_after, last, many_shapes, maps_by_trying, masked, movings,
                         movings_by_words, path, petersen, renamed, ring, rook, scattered, shrikhande, shuffled, star,
                         turned)


def told(shape, g=0):
    return last([begin()] + build(g, shape) + [movings(g)])


# Graphs and how many movings each has.
KNOWN = (
    (empty(0), 1),
    (empty(1), 1),
    (empty(2), 2),
    (path(2), 2),
    (path(3), 2),
    (path(16), 2),
    (star(16), factorial(15)),
    (empty(16), factorial(16)),
    (full(16), factorial(16)),
    (empty(15), factorial(15)),
    (ring(3), 6),
    (ring(16), 32),
    (copies(2, ring(8)), 16 * 16 * 2),
    (copies(4, ring(4)), 8 ** 4 * 24),
    (copies(4, full(4)), 24 ** 4 * 24),
    (copies(8, path(2)), 2 ** 8 * factorial(8)),
    (copies(5, path(3)), 2 ** 5 * factorial(5)),
    (copies(5, ring(3)), 6 ** 5 * factorial(5)),
    (between(8, 8), 2 * factorial(8) ** 2),
    (between(7, 9), factorial(7) * factorial(9)),
    (beside(empty(8), full(8)), factorial(8) ** 2),
    (beside(ring(3), ring(4)), 6 * 8),
    (beside(ring(3), ring(4), ring(9)), 6 * 8 * 18),
    (beside(empty(3), copies(3, path(2)), ring(7)), 6 * 48 * 14),
    (petersen(), 120),
    (cube(), 384),
    (folded_cube(), 1920),
    (rook(), 1152),
    (shrikhande(), 192),
    (frucht(), 1),
    (beside(frucht(), full(4)), 24),
    (beside(drawing(6, [(0, 1), (1, 2), (2, 3), (3, 4), (4, 5), (1, 3)]), empty(1)), 1),
    (drawing(7, [(0, 1), (1, 2), (2, 3), (2, 4), (4, 5), (5, 6)]), 1),
    (drawing(15, [((u - 1) // 2, u) for u in range(1, 15)]), 2 ** 7),
)


class Movings(unittest.TestCase):
    def test_known_numbers(self):
        for shape, wanted in KNOWN:
            for g in (0, 1):
                self.assertEqual(told(shape, g), [0, wanted])

    def test_16_factorial_is_told_whole(self):
        self.assertEqual(told(empty(16)), [0, 20922789888000])
        self.assertEqual(told(full(16)), [0, 20922789888000])

    def test_neither_the_names_nor_turning_matter(self):
        for shape, wanted in KNOWN:
            for seed in (1, 2):
                named = renamed(shape, shuffled(shape[0], seed))
                self.assertEqual(told(named), [0, wanted])
                self.assertEqual(told(turned(named)), [0, wanted])

    def test_all_graphs_of_up_to_five_points_by_the_words(self):
        for n in range(6):
            for mask in range(1 << (n * (n - 1) // 2)):
                self.assertEqual(told(masked(n, mask)), [0, movings_by_words(masked(n, mask))])

    def test_graphs_of_six_and_seven_points_by_the_words(self):
        shapes = [masked(6, mask) for mask in range(3, 1 << 15, 331)]
        shapes += [masked(7, mask) for mask in range(7, 1 << 21, 90001)]
        shapes += [shape for shape in many_shapes() if shape[0] in (6, 7)]
        for shape in shapes:
            self.assertEqual(told(shape), [0, movings_by_words(shape)])

    def test_large_graphs_by_trying(self):
        shapes = [scattered(n, percent, n + percent) for n in (9, 12, 16) for percent in (30, 50, 70)]
        shapes += [circulant(16, steps) for steps in ((1, 2), (1, 3), (1, 4), (1, 6), (1, 7), (2, 3), (1, 2, 4))]
        shapes += [circulant(15, (1, 4)), circulant(13, (1, 3, 4)), circulant(12, (2, 3)), beside(ring(7), path(8))]
        for shape in shapes:
            wanted = sum(1 for images in maps_by_trying(shape, shape))
            self.assertEqual(told(renamed(shape, shuffled(shape[0], 8))), [0, wanted])

    def test_of_the_graph_that_is_asked(self):
        calls = both(star(4), ring(5))
        self.assertEqual(last(calls + [movings(0)]), [0, 6])
        self.assertEqual(last(calls + [movings(1)]), [0, 10])

    def test_changes_nothing(self):
        calls = both(path(5), star(4)) + [movings(0), movings(1), movings(2)]
        self.assertEqual(graphs_after(calls), (path(5), star(4)))

    def test_refuses_a_wrong_graph(self):
        for g in WRONG_GRAPHS:
            self.assertEqual(last(both(path(5), star(4)) + [movings(g)]), [-1])
            self.assertEqual(last([begin(), movings(g)]), [-1])


if __name__ == "__main__":
    unittest.main()
