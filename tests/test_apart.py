"""Point 9: apart."""

import unittest

from tests.lines import (NO_POINTS, apart, apart_by_words, ask, begin, beside, both, build, drawing, empty, full,
                         graphs_after, last, many_shapes, masked, path, renamed, ring, scattered, shuffled, star)


def told(first, second, u, v):
    return last(both(first, second) + [apart(u, v)])


def every_pair(first, second):
    return [(u, v) for u in range(first[0]) for v in range(second[0])]


def table(first, second):
    """The answers for each point of the first graph and each of the second."""
    calls = both(first, second)
    found = []
    pairs = every_pair(first, second)
    for at in range(0, len(pairs), 100):
        found += ask(calls + [apart(u, v) for u, v in pairs[at:at + 100]])[len(calls):]
    return found


class Apart(unittest.TestCase):
    def test_other_numbers_of_neighbours_are_apart_1_deep(self):
        # 0 deep all are alike, so there is no lesser answer.
        self.assertEqual(told(empty(1), path(2), 0, 0), [1])
        self.assertEqual(told(path(3), path(3), 0, 1), [1])
        self.assertEqual(told(path(3), path(3), 1, 2), [1])
        self.assertEqual(told(star(16), star(15), 0, 0), [1])
        self.assertEqual(told(full(16), empty(16), 15, 15), [1])

    def test_alike_at_first_and_parted_deeper_down(self):
        self.assertEqual(told(path(2), path(3), 0, 0), [2])
        self.assertEqual(told(path(4), path(5), 0, 0), [4])
        self.assertEqual(told(path(4), path(5), 1, 1), [3])
        self.assertEqual(told(path(5), path(5), 1, 2), [2])
        self.assertEqual(told(path(16), path(16), 7, 6), [7])
        self.assertEqual(told(drawing(6, [(0, 1), (1, 2), (2, 3), (3, 4), (2, 5)]), star(4), 5, 1), [3])

    def test_paths(self):
        # The other end, n - 1 steps off, is the first point that has not as many neighbours in both.
        for n in range(1, 16):
            self.assertEqual(told(path(n), path(n + 1), 0, 0), [n])
            self.assertEqual(told(path(n), path(n + 1), 0, n), [n])
            self.assertEqual(told(path(n + 1), path(n), n, n - 1), [n])

    def test_alike_points(self):
        self.assertEqual(told(empty(1), empty(16), 0, 9), [-2])
        self.assertEqual(told(path(3), path(3), 0, 2), [-2])
        self.assertEqual(told(path(2), beside(path(2), empty(3)), 1, 0), [-2])
        self.assertEqual(told(ring(6), beside(ring(3), ring(3)), 5, 1), [-2])
        self.assertEqual(told(ring(3), ring(16), 2, 15), [-2])
        self.assertEqual(told(path(16), path(16), 3, 12), [-2])
        self.assertEqual(told(path(16), path(16), 3, 3), [-2])

    def test_parted_by_the_other_graph_deeper_than_each_parts_its_own(self):
        # Each graph by itself parts no points any more from 7 deep on.
        first = path(16)
        second = beside(path(15), empty(1))
        self.assertEqual(told(first, second, 0, 0), [15])
        self.assertEqual(table(first, second), [[apart_by_words(first, second, u, v)]
                                                for u, v in every_pair(first, second)])

    def test_graphs_that_each_part_nothing_by_themselves(self):
        # Only beside one another do points of them get parted.
        self.assertEqual(told(full(4), full(5), 3, 4), [1])
        self.assertEqual(told(ring(5), full(16), 0, 0), [1])

    def test_all_points_of_many_graphs_by_the_words(self):
        shapes = [shape for shape in many_shapes() if shape[0] <= 9]
        for at in range(len(shapes)):
            first, second = shapes[at], shapes[(at * 7 + 3) % len(shapes)]
            wanted = [[apart_by_words(first, second, u, v)] for u, v in every_pair(first, second)]
            self.assertEqual(table(first, second), wanted)

    def test_all_points_of_some_large_graphs_by_the_words(self):
        for first, second in ((scattered(16, 20, 1), scattered(16, 20, 2)), (path(16), star(13)),
                              (path(14), renamed(path(16), shuffled(16, 3))),
                              (beside(path(7), path(8)), beside(path(6), path(9)))):
            wanted = [[apart_by_words(first, second, u, v)] for u, v in every_pair(first, second)]
            self.assertEqual(table(first, second), wanted)

    def test_all_graphs_of_three_points_and_some_of_five(self):
        shapes = [masked(3, mask) for mask in range(8)] + [masked(5, mask) for mask in range(0, 1 << 10, 77)]
        for first in shapes:
            for second in shapes:
                wanted = [[apart_by_words(first, second, u, v)] for u, v in every_pair(first, second)]
                self.assertEqual(table(first, second), wanted)

    def test_u_is_of_graph_0_and_v_of_graph_1(self):
        calls = both(path(2), path(5))
        self.assertEqual(last(calls + [apart(1, 4)]), [2])
        self.assertEqual(last(calls + [apart(4, 1)]), [-1])

    def test_refuses_a_point_that_there_is_not(self):
        calls = both(path(5), ring(7))
        for u in NO_POINTS + (5, 6, 7):
            for v in (0, 6):
                self.assertEqual(last(calls + [apart(u, v)]), [-1])
        for v in NO_POINTS + (7, 8):
            for u in (0, 4):
                self.assertEqual(last(calls + [apart(u, v)]), [-1])
        for wrong in NO_POINTS:
            self.assertEqual(last(calls + [apart(wrong, wrong)]), [-1])
        self.assertEqual(told(full(16), full(16), 16, 0), [-1])
        self.assertEqual(told(full(16), full(16), 0, 16), [-1])
        self.assertEqual(told(full(16), full(16), 15, 15), [-2])

    def test_refuses_where_a_graph_has_no_points(self):
        for wrong in NO_POINTS + (0, 1):
            self.assertEqual(last([begin(), apart(wrong, wrong)]), [-1])
            self.assertEqual(last([begin(), apart(0, wrong)]), [-1])
            self.assertEqual(last([begin()] + build(0, path(3)) + [apart(0, wrong)]), [-1])
            self.assertEqual(last([begin()] + build(1, path(3)) + [apart(wrong, 0)]), [-1])

    def test_changes_nothing(self):
        calls = both(path(5), star(4)) + [apart(0, 0), apart(4, 1), apart(5, 0), apart(0, 4)]
        self.assertEqual(graphs_after(calls), (path(5), star(4)))


if __name__ == "__main__":
    unittest.main()
