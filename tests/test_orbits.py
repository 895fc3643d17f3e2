"""Point 13: orbits."""

import unittest

from tests.lines import (GREATEST, LEAST, TRIED_MOSTS, WRONG_GRAPHS, begin, beside, between, both, build, circulant,
                         classes, copies, cube, drawing, empty, first_of, folded_cube, frucht, full, graphs_after,
                         last, many_shapes, maps_by_trying, masked, orbits, orbits_by_words, path, petersen, renamed,
                         ring, rook, scattered, shrikhande, shuffled, star, turned)


def told(shape, most=16, g=0):
    return last([begin()] + build(g, shape) + [orbits(g, most)])


def orbits_by_trying(shape):
    least = list(range(shape[0]))
    for images in maps_by_trying(shape, shape):
        least = [min(one, other) for one, other in zip(least, images)]
    return least


class Orbits(unittest.TestCase):
    def test_worked_out_by_hand(self):
        self.assertEqual(told(empty(0)), [0])
        self.assertEqual(told(empty(1)), [1, 0])
        self.assertEqual(told(path(2)), [2, 0, 0])
        self.assertEqual(told(path(5)), [5, 0, 1, 2, 1, 0])
        self.assertEqual(told(path(16)), [16] + list(range(8)) + list(range(7, -1, -1)))
        self.assertEqual(told(star(16)), [16, 0] + [1] * 15)
        self.assertEqual(told(renamed(star(4), [3, 0, 1, 2])), [4, 0, 0, 0, 3])
        self.assertEqual(told(beside(path(3), empty(2), path(2))), [7, 0, 1, 0, 3, 3, 5, 5])
        self.assertEqual(told(drawing(15, [((u - 1) // 2, u) for u in range(1, 15)])),
                         [15, 0, 1, 1] + [3] * 4 + [7] * 8)

    def test_all_on_one_another(self):
        shapes = [empty(16), full(16), ring(16), copies(2, ring(8)), copies(8, path(2)), between(8, 8), rook(),
                  shrikhande(), cube(), folded_cube(), petersen(), copies(4, ring(4)), copies(4, full(4)),
                  circulant(16, (1, 2)), circulant(13, (1, 3, 4))]
        for shape in shapes:
            for named in (shape, renamed(shape, shuffled(shape[0], 6))):
                for g in (0, 1):
                    self.assertEqual(told(named, 16, g), [shape[0]] + [0] * shape[0])

    def test_alike_and_yet_on_no_moving_put_on_one_another(self):
        self.assertEqual(told(beside(ring(3), ring(4))), [7, 0, 0, 0, 3, 3, 3, 3])
        self.assertEqual(told(frucht()), [12] + list(range(12)))
        self.assertEqual(told(beside(frucht(), full(4))), [16] + list(range(12)) + [12] * 4)
        self.assertEqual(told(beside(full(4), frucht())), [16] + [0] * 4 + list(range(4, 16)))
        self.assertEqual(told(beside(petersen(), between(3, 3))), [16] + [0] * 10 + [10] * 6)
        self.assertEqual(told(beside(ring(5), ring(3), ring(5), ring(3))),
                         [16] + [0] * 5 + [5] * 3 + [0] * 5 + [5] * 3)
        for shape in (beside(ring(3), ring(4)), frucht(), beside(frucht(), full(4))):
            self.assertEqual(last([begin()] + build(0, shape) + [classes(0, 16)]), [shape[0]] + [0] * shape[0])

    def test_pieces_that_lie_among_one_another(self):
        shape = renamed(beside(ring(3), ring(4)), [6, 1, 3, 0, 2, 4, 5])
        self.assertEqual(told(shape), [7, 0, 1, 0, 1, 0, 0, 1])
        self.assertEqual(told(turned(shape)), [7, 0, 1, 0, 1, 0, 0, 1])

    def test_all_graphs_of_up_to_five_points_by_the_words(self):
        for n in range(6):
            for mask in range(1 << (n * (n - 1) // 2)):
                self.assertEqual(told(masked(n, mask)), [n] + orbits_by_words(masked(n, mask)))

    def test_graphs_of_six_and_seven_points_by_the_words(self):
        shapes = [masked(6, mask) for mask in range(1, 1 << 15, 371)]
        shapes += [masked(7, mask) for mask in range(5, 1 << 21, 95003)]
        shapes += [shape for shape in many_shapes() if shape[0] in (6, 7)]
        for shape in shapes:
            self.assertEqual(told(shape), [shape[0]] + orbits_by_words(shape))

    def test_large_graphs_by_trying(self):
        shapes = [scattered(n, percent, n * percent) for n in (9, 12, 16) for percent in (30, 50, 70)]
        shapes += [circulant(12, (2, 3)), beside(ring(7), path(8)), beside(ring(4), ring(5), ring(7))]
        shapes += [drawing(14, ring(14)[1] + ((0, 5), (2, 7), (9, 13))), drawing(16, cube()[1] + ((0, 15),))]
        shapes += [drawing(16, [pair for pair in rook()[1] if pair != (0, 1)])]
        for shape in shapes:
            named = renamed(shape, shuffled(shape[0], 8))
            self.assertEqual(told(named), [shape[0]] + orbits_by_trying(named))
            self.assertEqual(told(turned(named)), [shape[0]] + orbits_by_trying(named))

    def test_most(self):
        for shape in (empty(0), empty(1), path(2), path(7), star(8), beside(frucht(), ring(3)), path(16), full(16)):
            every = told(shape)[1:]
            self.assertEqual(len(every), shape[0])
            for most in TRIED_MOSTS + tuple(range(1, 17)):
                self.assertEqual(told(shape, most), [shape[0]] + first_of(every, most))

    def test_most_outside_1_to_16_tells_the_points_alone(self):
        for most in (LEAST, -16, -1, 0, 17, 18, GREATEST):
            self.assertEqual(told(path(16), most), [16])
            self.assertEqual(told(path(3), most), [3])
        self.assertEqual(told(path(3), 1), [3, 0])
        self.assertEqual(told(path(3), 2), [3, 0, 1])
        self.assertEqual(told(path(3), 3), [3, 0, 1, 0])
        self.assertEqual(told(path(3), 4), [3, 0, 1, 0])
        self.assertEqual(told(path(3), 16), [3, 0, 1, 0])

    def test_the_other_graph_does_not_matter(self):
        for other in (empty(0), path(16), ring(5), path(5)):
            self.assertEqual(last(both(path(5), other) + [orbits(0, 16)]), [5, 0, 1, 2, 1, 0])
            self.assertEqual(last(both(other, path(5)) + [orbits(1, 16)]), [5, 0, 1, 2, 1, 0])

    def test_changes_nothing(self):
        calls = both(path(5), star(4)) + [orbits(0, 16), orbits(1, 2), orbits(2, 2)]
        self.assertEqual(graphs_after(calls), (path(5), star(4)))

    def test_refuses_a_wrong_graph(self):
        calls = both(path(5), star(4))
        for g in WRONG_GRAPHS:
            for most in TRIED_MOSTS:
                self.assertEqual(last(calls + [orbits(g, most)]), [-1])


if __name__ == "__main__":
    unittest.main()
