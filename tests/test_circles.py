"""Point 15: circles."""

import unittest
from itertools import product

from tests.lines import (LIMIT, WRONG_GRAPHS, WRONG_STEPS, begin, beside, between, both, build, circles, drawing,
                         empty, full, graphs_after, last, many_shapes, path, ring, rook, scattered, shrikhande, star,
                         walks_by_words)


def told(shape, k, g=0):
    return last([begin()] + build(g, shape) + [circles(g, k)])


def by_listing(shape, k):
    """How many rows of k + 1 points, the last the first, there are in which each is a neighbour of the one before."""
    n, edges = shape
    return sum(all((min(row[i], row[i + 1]), max(row[i], row[i + 1])) in edges for i in range(k)) and row[0] == row[k]
               for row in product(range(n), repeat=k + 1))


def by_words(shape, k):
    ways = walks_by_words(shape, k)
    return sum(ways[u][u] for u in range(shape[0])) % LIMIT


class Circles(unittest.TestCase):
    def test_no_steps(self):
        for shape in (empty(0), empty(1), empty(16), full(16), path(7), star(5)):
            self.assertEqual(told(shape, 0), [0, shape[0]])

    def test_one_step_leads_to_another_point(self):
        for shape in many_shapes():
            self.assertEqual(told(shape, 1), [0, 0])

    def test_two_steps_are_each_edge_there_and_back(self):
        for shape in many_shapes():
            self.assertEqual(told(shape, 2), [0, 2 * len(shape[1])])

    def test_three_steps_are_each_triangle_six_times(self):
        self.assertEqual(told(ring(3), 3), [0, 6])
        self.assertEqual(told(full(4), 3), [0, 24])
        self.assertEqual(told(ring(4), 3), [0, 0])
        self.assertEqual(told(full(16), 3), [0, 16 * 15 * 14])
        self.assertEqual(told(drawing(4, [(0, 1), (1, 2), (0, 2), (2, 3)]), 3), [0, 6])

    def test_an_odd_number_of_steps_never_leads_back_between_two_parts(self):
        for shape in (path(16), star(9), ring(8), between(8, 8), path(2)):
            for k in (1, 3, 5, 63):
                self.assertEqual(told(shape, k), [0, 0])
        self.assertEqual(told(path(2), 64), [0, 2])

    def test_no_points_and_no_edges(self):
        for k in (0, 1, 2, 63, 64):
            self.assertEqual(told(empty(0), k), [0, 0])
            self.assertEqual(told(empty(1), k), [0, 1 if k == 0 else 0])
            self.assertEqual(told(empty(16), k), [0, 16 if k == 0 else 0])

    def test_all_neighbours_modulo_2_to_the_64(self):
        for k in range(65):
            self.assertEqual(told(full(16), k), [0, (15 ** k + 15 * (-1) ** k) % LIMIT])
        self.assertEqual(told(full(16), 64), [0, 5440288034896206864])
        for k in range(1, 65):
            wanted = (2 * 8 ** k if k % 2 == 0 else 0) % LIMIT
            self.assertEqual(told(between(8, 8), k), [0, wanted])

    def test_small_graphs_by_listing_the_ways(self):
        for shape in (path(4), ring(4), star(4), full(4), beside(ring(3), path(2)), scattered(5, 50, 3)):
            for k in range(6):
                self.assertEqual(told(shape, k), [0, by_listing(shape, k)])

    def test_many_graphs_by_the_words(self):
        for at, shape in enumerate(many_shapes()):
            for k in (4, 5, 7 + at % 50, 63, 64):
                self.assertEqual(told(shape, k, at % 2), [0, by_words(shape, k)])

    def test_every_number_of_steps_by_the_words(self):
        shape = drawing(6, [(0, 1), (1, 2), (2, 3), (3, 4), (2, 5), (3, 5)])
        for k in range(65):
            self.assertEqual(told(shape, k), [0, by_words(shape, k)])

    def test_as_many_in_two_graphs_that_are_not_the_same(self):
        for k in (0, 1, 2, 3, 4, 5, 20, 64):
            self.assertEqual(told(rook(), k), told(shrikhande(), k))

    def test_refuses_too_many_steps_or_fewer_than_none(self):
        for k in WRONG_STEPS:
            for shape in (empty(0), path(5), full(16)):
                for g in (0, 1):
                    self.assertEqual(told(shape, k, g), [-1])

    def test_refuses_a_wrong_graph(self):
        for g in WRONG_GRAPHS:
            for k in (0, 1, 64, -1, 65):
                self.assertEqual(last(both(path(5), star(4)) + [circles(g, k)]), [-1])

    def test_changes_nothing(self):
        calls = both(path(5), star(4)) + [circles(0, 3), circles(1, 64), circles(2, 2), circles(0, 65)]
        self.assertEqual(graphs_after(calls), (path(5), star(4)))


if __name__ == "__main__":
    unittest.main()
