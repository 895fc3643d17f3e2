"""Point 11: same."""

import unittest
from itertools import permutations

from tests.lines import (GREATEST, LEAST, TRIED_MOSTS, begin, beside, between, both, build, circulant, copies, cube,
                         drawing, empty, first_of, frucht, full, graphs_after, last, many_shapes, maps_by_trying,
                         masked, path, petersen, refined, renamed, ring, rook, same, same_by_words, scattered,
                         shrikhande, shuffled, star, turned)


def told(first, second, most=16):
    return last(both(first, second) + [same(most)])


def by_words(first, second):
    images = same_by_words(first, second)
    return [-2] if images is None else [first[0]] + images


class Same(unittest.TestCase):
    def test_no_points(self):
        self.assertEqual(last([begin(), same(16)]), [0])
        for most in TRIED_MOSTS:
            self.assertEqual(told(empty(0), empty(0), most), [0])

    def test_the_first_of_several_maps(self):
        self.assertEqual(told(empty(1), empty(1)), [1, 0])
        self.assertEqual(told(path(2), path(2)), [2, 0, 1])
        self.assertEqual(told(empty(16), empty(16)), [16] + list(range(16)))
        self.assertEqual(told(full(16), full(16)), [16] + list(range(16)))
        self.assertEqual(told(path(3), drawing(3, [(0, 1), (0, 2)])), [3, 1, 0, 2])
        self.assertEqual(told(ring(4), drawing(4, [(0, 1), (0, 2), (1, 3), (2, 3)])), [4, 0, 1, 3, 2])
        self.assertEqual(told(drawing(4, [(0, 1), (2, 3)]), drawing(4, [(0, 3), (1, 2)])), [4, 0, 3, 1, 2])
        self.assertEqual(told(drawing(4, [(0, 3), (1, 2)]), drawing(4, [(0, 1), (2, 3)])), [4, 0, 2, 3, 1])
        self.assertEqual(told(beside(ring(3), ring(4)), beside(ring(4), ring(3))), [7, 4, 5, 6, 0, 1, 2, 3])

    def test_pieces_that_lie_among_one_another(self):
        first = drawing(8, [(0, 7), (1, 6), (2, 5), (3, 4)])
        second = drawing(8, [(0, 1), (2, 3), (4, 5), (6, 7)])
        self.assertEqual(told(first, second), [8, 0, 2, 4, 6, 7, 5, 3, 1])
        self.assertEqual(told(second, first), [8, 0, 7, 1, 6, 2, 5, 3, 4])
        self.assertEqual(told(turned(first), turned(second)), [8, 0, 2, 4, 6, 7, 5, 3, 1])

    def test_of_graph_0_onto_graph_1_and_not_back(self):
        first, second = drawing(3, [(0, 1)]), drawing(3, [(1, 2)])
        self.assertEqual(told(first, second), [3, 1, 2, 0])
        self.assertEqual(told(second, first), [3, 2, 0, 1])

    def test_none_where_the_numbers_of_points_differ(self):
        self.assertEqual(told(empty(0), empty(1)), [-2])
        self.assertEqual(told(empty(1), empty(0)), [-2])
        self.assertEqual(told(full(15), full(16)), [-2])
        self.assertEqual(told(ring(8), copies(2, ring(8))), [-2])
        self.assertEqual(last([begin()] + build(0, path(2)) + [same(16)]), [-2])

    def test_none_where_the_parts_differ(self):
        self.assertEqual(told(empty(2), path(2)), [-2])
        self.assertEqual(told(path(4), star(4)), [-2])
        self.assertEqual(told(beside(path(4), path(2)), copies(2, path(3))), [-2])
        self.assertEqual(told(full(16), empty(16)), [-2])

    def test_none_though_refined(self):
        pairs = [(ring(6), copies(2, ring(3))), (ring(16), copies(2, ring(8))), (rook(), shrikhande()),
                 (copies(2, ring(4)), beside(ring(3), ring(5))), (frucht(), copies(3, full(4))),
                 (beside(empty(10), ring(6)), beside(empty(10), copies(2, ring(3)))),
                 (beside(copies(5, path(2)), ring(6)), beside(copies(5, path(2)), copies(2, ring(3)))),
                 (beside(copies(3, ring(3)), ring(7)), beside(copies(4, ring(3)), ring(4))),
                 (beside(petersen(), ring(6)), beside(circulant(10, (1, 5)), ring(6))),
                 (circulant(16, (1, 2)), circulant(16, (1, 6))),
                 (circulant(16, (1, 4)), cube())]
        for first, second in pairs:
            for one, other in ((first, second), (second, first), (turned(first), turned(second)),
                               (renamed(first, shuffled(first[0], 4)), renamed(second, shuffled(first[0], 5)))):
                self.assertEqual(last(both(one, other) + [refined()]), [1])
                for most in (LEAST, 0, 1, 16, 17):
                    self.assertEqual(told(one, other, most), [-2])

    def test_all_pairs_of_graphs_of_up_to_four_points_by_the_words(self):
        for n in range(5):
            shapes = [masked(n, mask) for mask in range(1 << (n * (n - 1) // 2))]
            for first in shapes:
                for second in shapes:
                    if len(first[1]) == len(second[1]):
                        self.assertEqual(told(first, second), by_words(first, second))

    def test_all_graphs_of_five_points_named_otherwise_by_the_words(self):
        for mask in range(1 << 10):
            first = masked(5, mask)
            second = renamed(first, shuffled(5, mask))
            self.assertEqual(told(first, second), by_words(first, second))

    def test_graphs_of_six_and_seven_points_by_the_words(self):
        shapes = [masked(6, mask) for mask in range(5, 1 << 15, 701)]
        shapes += [masked(7, mask) for mask in range(99, 1 << 21, 150011)]
        shapes += [beside(ring(3), ring(4)), copies(3, path(2)), between(3, 3), between(3, 4), copies(2, ring(3))]
        shapes += [ring(6), ring(7), beside(copies(3, path(2)), empty(1)), turned(ring(7)), star(7), empty(7), full(7)]
        for at, first in enumerate(shapes):
            for second in (renamed(first, shuffled(first[0], at)), renamed(turned(first), shuffled(first[0], at))):
                self.assertEqual(told(first, second), by_words(first, second))

    def test_all_namings_of_some_graphs(self):
        for shape in (path(5), beside(path(2), path(2), empty(1)), beside(ring(3), path(2)), ring(5), star(5)):
            for order in permutations(range(5)):
                second = renamed(shape, order)
                self.assertEqual(told(shape, second), by_words(shape, second))

    def test_many_graphs_named_otherwise(self):
        # What is answered is a map; the next tests say whether it is the first.
        for shape in many_shapes():
            for seed in range(2):
                second = renamed(shape, shuffled(shape[0], seed))
                reply = told(shape, second)
                self.assertEqual(reply[0], shape[0])
                self.assertEqual(sorted(reply[1:]), list(range(shape[0])))
                self.assertEqual(renamed(shape, reply[1:]), second)

    def test_the_first_map_of_large_graphs(self):
        shapes = [ring(16), copies(2, ring(8)), rook(), shrikhande(), cube(), petersen(), frucht(), full(16), empty(16),
                  copies(4, ring(4)), copies(4, full(4)), between(8, 8), path(16), star(16), circulant(16, (1, 2)),
                  beside(frucht(), ring(4)), scattered(16, 50, 8), scattered(14, 50, 9), copies(8, path(2))]
        for at, first in enumerate(shapes):
            for second in (first, renamed(first, shuffled(first[0], at)), renamed(first, shuffled(first[0], at + 50))):
                self.assertEqual(told(first, second), [first[0]] + next(maps_by_trying(first, second)))
                self.assertEqual(told(turned(first), turned(second)), told(first, second))

    def test_most(self):
        pairs = [(path(3), drawing(3, [(0, 1), (0, 2)])), (beside(ring(3), ring(4)), beside(ring(4), ring(3))),
                 (path(16), renamed(path(16), shuffled(16, 2))), (empty(1), empty(1)), (full(15), full(15))]
        for first, second in pairs:
            every = told(first, second)[1:]
            self.assertEqual(len(every), first[0])
            for most in TRIED_MOSTS + tuple(range(1, 17)):
                self.assertEqual(told(first, second, most), [first[0]] + first_of(every, most))

    def test_most_outside_1_to_16_tells_the_points_alone(self):
        for most in (LEAST, -16, -1, 0, 17, 18, GREATEST):
            self.assertEqual(told(path(16), path(16), most), [16])
            self.assertEqual(told(path(3), drawing(3, [(0, 1), (0, 2)]), most), [3])
        self.assertEqual(told(path(3), drawing(3, [(0, 1), (0, 2)]), 1), [3, 1])
        self.assertEqual(told(path(3), drawing(3, [(0, 1), (0, 2)]), 2), [3, 1, 0])
        self.assertEqual(told(path(3), drawing(3, [(0, 1), (0, 2)]), 3), [3, 1, 0, 2])
        self.assertEqual(told(path(3), drawing(3, [(0, 1), (0, 2)]), 4), [3, 1, 0, 2])

    def test_none_whatever_most_is(self):
        for most in TRIED_MOSTS:
            self.assertEqual(told(path(4), star(4), most), [-2])
            self.assertEqual(told(ring(6), copies(2, ring(3)), most), [-2])
            self.assertEqual(told(empty(0), empty(1), most), [-2])

    def test_changes_nothing(self):
        for second in (renamed(path(5), shuffled(5, 1)), star(5), ring(6)):
            calls = both(path(5), second) + [same(16), same(0), same(3)]
            self.assertEqual(graphs_after(calls), (path(5), second))


if __name__ == "__main__":
    unittest.main()
