"""Point 16: trees."""

import unittest
from itertools import product

from tests.lines import (LIMIT, WRONG_GRAPHS, ask, begin, beside, between, both, build, copies, degree, empty, full,
                         graphs_after, last, many_shapes, numbers_from, path, refined, ring, rook, scattered,
                         shrikhande, star, trees, trees_by_words, walks)

LINE = tuple(range(15))
STAR = (0,) * 15


def told(shape, hung, g=0):
    return last([begin()] + build(g, shape) + [trees(g, hung)])


def by_listing(shape, hung):
    """How many ways there are to put the points of the tree so that neighbours come to be neighbours."""
    n, edges = shape
    return sum(all((min(row[i + 1], row[hung[i]]), max(row[i + 1], row[hung[i]])) in edges for i in range(len(hung)))
               for row in product(range(n), repeat=len(hung) + 1))


def drawn_trees(count, seed):
    """Trees of 1 to 16 points."""
    found = numbers_from(seed)
    return [tuple(next(found) % (i + 1) for i in range(at % 16)) for at in range(count)]


class Trees(unittest.TestCase):
    def test_a_single_point(self):
        for shape in (empty(0), empty(1), empty(16), full(16), path(7)):
            self.assertEqual(told(shape, ()), [0, shape[0]])

    def test_two_points(self):
        for shape in many_shapes():
            self.assertEqual(told(shape, (0,)), [0, 2 * len(shape[1])])

    def test_worked_out_by_hand(self):
        self.assertEqual(told(path(3), (0, 0)), [0, 6])
        self.assertEqual(told(path(3), (0, 1)), [0, 6])
        self.assertEqual(told(path(3), (0, 0, 0)), [0, 10])
        self.assertEqual(told(path(3), (0, 1, 2)), [0, 8])
        self.assertEqual(told(star(5), (0, 0, 0)), [0, 68])
        self.assertEqual(told(star(5), (0, 1, 1)), [0, 68])
        self.assertEqual(told(ring(4), (0, 0, 1, 1)), [0, 64])

    def test_a_star_is_each_point_with_its_neighbours_chosen_again_and_again(self):
        for shape in many_shapes():
            degrees = [sum(u in pair for pair in shape[1]) for u in range(shape[0])]
            for n in (1, 2, 3, 14, 15):
                self.assertEqual(told(shape, STAR[:n]), [0, sum(d ** n for d in degrees) % LIMIT])

    def test_a_line_lies_as_often_as_there_are_walks(self):
        for shape in (path(16), ring(5), star(16), full(16), scattered(12, 40, 3), beside(ring(3), path(5))):
            for n in range(16):
                calls = [begin()] + build(0, shape) + [walks(0, n), trees(0, LINE[:n])]
                found = ask(calls)
                self.assertEqual(found[-1], found[-2])

    def test_fifteen_hung_where_all_are_neighbours_modulo_2_to_the_64(self):
        for hung in (STAR, LINE) + tuple(tree for tree in drawn_trees(32, 2) if len(tree) == 15):
            # 16 * 15 ** 15 is still below the limit.
            self.assertEqual(told(full(16), hung), [0, 16 * 15 ** 15 % LIMIT])

    def test_modulo_2_to_the_64(self):
        # As large as it gets is a star on 16 points that are all neighbours.
        self.assertLess(16 * 15 ** 15, LIMIT)
        self.assertEqual(told(full(16), STAR), [0, 7006302246093750000])

    def test_no_points_and_no_edges(self):
        for hung in ((), (0,), (0, 1), STAR, LINE):
            self.assertEqual(told(empty(0), hung), [0, 0])
            self.assertEqual(told(empty(1), hung), [0, 0 if hung else 1])
            self.assertEqual(told(empty(16), hung), [0, 0 if hung else 16])

    def test_where_all_have_as_many_neighbours(self):
        for shape, each in ((ring(16), 2), (full(5), 4), (between(8, 8), 8), (rook(), 6), (copies(8, path(2)), 1)):
            for hung in drawn_trees(16, 3):
                self.assertEqual(told(shape, hung), [0, shape[0] * each ** len(hung) % LIMIT])

    def test_small_graphs_by_listing(self):
        for shape in (path(4), star(4), full(3), beside(ring(3), path(2)), scattered(5, 50, 3)):
            for hung in [tree for tree in drawn_trees(80, 4) if len(tree) <= 5]:
                self.assertEqual(told(shape, hung), [0, by_listing(shape, hung)])

    def test_many_graphs_by_the_words(self):
        for at, shape in enumerate(many_shapes()):
            for hung in drawn_trees(16, at):
                self.assertEqual(told(shape, hung, at % 2), [0, trees_by_words(shape, hung) % LIMIT])

    def test_as_often_in_graphs_that_are_refined(self):
        pairs = ((ring(6), copies(2, ring(3))), (rook(), shrikhande()), (ring(9), beside(ring(4), ring(5))))
        for first, second in pairs:
            calls = both(first, second)
            self.assertEqual(last(calls + [refined()]), [1])
            for hung in drawn_trees(16, 9):
                self.assertEqual(last(calls + [trees(0, hung)]), last(calls + [trees(1, hung)]))

    def test_refuses_a_point_that_hangs_on_none_before_it(self):
        wrong = [(1,), (2,), (255,), (0, 2), (0, 3), (0, 255), (1, 0), (0, 1, 3), (0, 0, 4), (0, 3, 0), (255, 0, 0)]
        wrong += [LINE[:-1] + (15,), LINE[:-1] + (16,), STAR[:-1] + (15,), STAR[:-1] + (255,), (1,) + STAR[1:]]
        wrong += [LINE[:at] + (at + 1,) + LINE[at + 1:] for at in range(15)]
        for hung in wrong:
            for shape in (empty(0), path(4), full(16)):
                self.assertEqual(told(shape, hung), [-1])
                self.assertEqual(told(shape, hung, 1), [-1])
        for n in range(1, 16):
            self.assertEqual(told(path(2), LINE[:n]), [0, 2])
            self.assertEqual(told(path(2), LINE[:n - 1] + (n,)), [-1])

    def test_refuses_a_wrong_graph_and_the_call_behind_it_is_read_rightly(self):
        calls = both(path(5), star(4))
        for g in WRONG_GRAPHS:
            for hung in ((), (0,), (1,), (0, 1, 2), STAR, LINE, (255,) * 15):
                found = ask(calls + [trees(g, hung), degree(1, 0), trees(0, hung[:1]), degree(0, 1)])
                self.assertEqual(found[-4:-2], [[-1], [3]])
                self.assertEqual(found[-1], [2])

    def test_the_call_behind_it_is_read_rightly(self):
        calls = both(path(5), star(4))
        for hung in drawn_trees(16, 6) + [(255,), (0, 255), (3,) * 15]:
            found = ask(calls + [trees(0, hung), degree(1, 0), trees(1, hung), trees(0, ()), degree(0, 1)])
            self.assertEqual(found[-4], [3])
            self.assertEqual(found[-2:], [[0, 5], [2]])

    def test_refuses_more_than_fifteen_hung(self):
        calls = both(path(5), star(4))
        self.assertEqual(ask(calls + [trees(0, (0,) * 16), degree(1, 0)])[-2:], [[-1], [3]])

    def test_changes_nothing(self):
        calls = both(path(5), star(4)) + [trees(0, LINE), trees(1, STAR), trees(2, (0,)), trees(0, (1,))]
        self.assertEqual(graphs_after(calls), (path(5), star(4)))


if __name__ == "__main__":
    unittest.main()
