"""Point 7: classes."""

import unittest

from tests.lines import (GREATEST, LEAST, TRIED_MOSTS, WRONG_GRAPHS, begin, beside, build, classes, classes_by_words,
                         drawing, empty, full, graphs_after, last, many_shapes, masked, path, renamed, ring, star)


def told(shape, most, g=0):
    return last([begin()] + build(g, shape) + [classes(g, most)])


class Classes(unittest.TestCase):
    def test_worked_out_by_hand(self):
        self.assertEqual(told(empty(0), 16), [0])
        self.assertEqual(told(empty(1), 16), [1, 0])
        self.assertEqual(told(empty(16), 16), [16] + [0] * 16)
        self.assertEqual(told(full(16), 16), [16] + [0] * 16)
        self.assertEqual(told(ring(16), 16), [16] + [0] * 16)
        self.assertEqual(told(star(16), 16), [16, 0] + [1] * 15)
        self.assertEqual(told(path(5), 16), [5, 0, 1, 2, 1, 0])
        self.assertEqual(told(path(16), 16), [16] + list(range(8)) + list(range(7, -1, -1)))
        self.assertEqual(told(beside(ring(3), ring(4)), 16), [7] + [0] * 7)
        self.assertEqual(told(beside(path(3), empty(2), path(2)), 16), [7, 0, 1, 0, 3, 3, 5, 5])

    def test_parted_only_two_deep(self):
        shape = drawing(6, [(0, 1), (1, 2), (2, 3), (3, 4), (2, 5)])
        self.assertEqual(told(shape, 16), [6, 0, 1, 2, 1, 0, 5])

    def test_many_graphs_by_the_words(self):
        for shape in many_shapes():
            for g in (0, 1):
                self.assertEqual(told(shape, 16, g), [shape[0]] + classes_by_words(shape))

    def test_all_graphs_of_up_to_four_points_and_some_of_six(self):
        shapes = [masked(n, mask) for n in range(5) for mask in range(1 << (n * (n - 1) // 2))]
        shapes += [masked(6, mask) for mask in range(0, 1 << 15, 173)]
        for shape in shapes:
            self.assertEqual(told(shape, 16), [shape[0]] + classes_by_words(shape))

    def test_the_names_of_the_points_tell_only_which_is_the_least(self):
        self.assertEqual(told(renamed(star(4), [3, 0, 1, 2]), 16), [4, 0, 0, 0, 3])
        self.assertEqual(told(renamed(path(5), [4, 1, 0, 2, 3]), 16), [5, 0, 1, 1, 3, 3])

    def test_most(self):
        for shape in (empty(0), empty(1), path(2), path(7), star(8), path(15), path(16)):
            every = classes_by_words(shape)
            for most in TRIED_MOSTS:
                wanted = [every[u] for u in range(shape[0]) if u < most] if 1 <= most <= 16 else []
                self.assertEqual(told(shape, most), [shape[0]] + wanted)

    def test_most_outside_1_to_16_tells_the_points_alone(self):
        for most in (LEAST, -16, -1, 0, 17, 18, GREATEST):
            self.assertEqual(told(path(16), most), [16])
            self.assertEqual(told(path(3), most), [3])
        self.assertEqual(told(path(3), 1), [3, 0])
        self.assertEqual(told(path(3), 2), [3, 0, 1])
        self.assertEqual(told(path(3), 3), [3, 0, 1, 0])
        self.assertEqual(told(path(3), 4), [3, 0, 1, 0])
        self.assertEqual(told(path(3), 16), [3, 0, 1, 0])

    def test_the_other_graph_does_not_matter(self):
        for other in (empty(0), path(16), ring(5), star(4)):
            calls = [begin()] + build(0, path(5)) + build(1, other) + [classes(0, 16)]
            self.assertEqual(last(calls), [5, 0, 1, 2, 1, 0])

    def test_changes_nothing(self):
        calls = [begin()] + build(0, path(5)) + build(1, star(4)) + [classes(0, 16), classes(1, 2), classes(2, 2)]
        self.assertEqual(graphs_after(calls), (path(5), star(4)))

    def test_refuses_a_wrong_graph(self):
        calls = [begin()] + build(0, path(5)) + build(1, star(4))
        for g in WRONG_GRAPHS:
            for most in TRIED_MOSTS:
                self.assertEqual(last(calls + [classes(g, most)]), [-1])


if __name__ == "__main__":
    unittest.main()
