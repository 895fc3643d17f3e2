"""Point 14: walks."""

import unittest
from itertools import product

from tests.lines import (LIMIT, WRONG_GRAPHS, WRONG_STEPS, begin, beside, between, both, build, drawing, empty, full,
                         graphs_after, last, many_shapes, path, ring, scattered, star, walks, walks_by_words)


def told(shape, k, g=0):
    return last([begin()] + build(g, shape) + [walks(g, k)])


def by_listing(shape, k):
    """How many rows of k + 1 points there are in which each is a neighbour of the one before."""
    n, edges = shape
    return sum(all((min(row[i], row[i + 1]), max(row[i], row[i + 1])) in edges for i in range(k))
               for row in product(range(n), repeat=k + 1))


class Walks(unittest.TestCase):
    def test_no_steps(self):
        for shape in (empty(0), empty(1), empty(16), full(16), path(7), star(5)):
            self.assertEqual(told(shape, 0), [0, shape[0]])

    def test_one_step_is_each_edge_there_and_back(self):
        for shape in many_shapes():
            self.assertEqual(told(shape, 1), [0, 2 * len(shape[1])])

    def test_worked_out_by_hand(self):
        self.assertEqual(told(path(3), 2), [0, 6])
        self.assertEqual(told(path(3), 3), [0, 8])
        self.assertEqual(told(path(2), 64), [0, 2])
        self.assertEqual(told(star(5), 2), [0, 20])
        self.assertEqual(told(ring(5), 2), [0, 20])
        self.assertEqual(told(beside(path(2), path(3), empty(1)), 2), [0, 8])

    def test_no_points_and_no_edges(self):
        for k in (0, 1, 2, 63, 64):
            self.assertEqual(told(empty(0), k), [0, 0])
            self.assertEqual(told(empty(1), k), [0, 1 if k == 0 else 0])
            self.assertEqual(told(empty(16), k), [0, 16 if k == 0 else 0])

    def test_where_all_have_as_many_neighbours(self):
        for shape, degree in ((ring(16), 2), (full(5), 4), (full(16), 15), (between(8, 8), 8), (path(2), 1)):
            for k in range(65):
                self.assertEqual(told(shape, k), [0, shape[0] * degree ** k % LIMIT])

    def test_modulo_2_to_the_64(self):
        self.assertEqual(told(full(16), 64), [0, 13257632263501103120])
        self.assertEqual(told(full(16), 15), [0, 16 * 15 ** 15])
        self.assertEqual(told(full(16), 16), [0, 16 * 15 ** 16 % LIMIT])
        self.assertEqual(told(ring(16), 59), [0, 1 << 63])
        self.assertEqual(told(ring(16), 60), [0, 0])
        self.assertEqual(told(ring(3), 63), [0, 3 * 2 ** 63 % LIMIT])
        # A number just below the limit stays as it is.
        self.assertEqual(told(beside(ring(3), ring(5), ring(7)), 60), [0, 15 * 2 ** 60])

    def test_small_graphs_by_listing_the_ways(self):
        for shape in (path(4), ring(4), star(4), full(4), beside(ring(3), path(2)), scattered(5, 50, 3)):
            for k in range(6):
                self.assertEqual(told(shape, k), [0, by_listing(shape, k)])

    def test_many_graphs_by_the_words(self):
        for at, shape in enumerate(many_shapes()):
            for k in (2, 3, 7 + at % 50, 63, 64):
                wanted = sum(sum(row) for row in walks_by_words(shape, k)) % LIMIT
                self.assertEqual(told(shape, k, at % 2), [0, wanted])

    def test_every_number_of_steps_by_the_words(self):
        shape = drawing(6, [(0, 1), (1, 2), (2, 3), (3, 4), (2, 5), (3, 5)])
        for k in range(65):
            self.assertEqual(told(shape, k), [0, sum(sum(row) for row in walks_by_words(shape, k)) % LIMIT])

    def test_refuses_too_many_steps_or_fewer_than_none(self):
        for k in WRONG_STEPS:
            for shape in (empty(0), path(5), full(16)):
                for g in (0, 1):
                    self.assertEqual(told(shape, k, g), [-1])

    def test_refuses_a_wrong_graph(self):
        for g in WRONG_GRAPHS:
            for k in (0, 1, 64, -1, 65):
                self.assertEqual(last(both(path(5), star(4)) + [walks(g, k)]), [-1])

    def test_changes_nothing(self):
        calls = both(path(5), star(4)) + [walks(0, 3), walks(1, 64), walks(2, 2), walks(0, 65)]
        self.assertEqual(graphs_after(calls), (path(5), star(4)))


if __name__ == "__main__":
    unittest.main()
