"""Points 11 to 13 where they are hard: many points, of which all have as many neighbours."""

import unittest
from math import factorial

from tests.lines import (ask, begin, beside, between, both, build, circulant, copies, cube, empty, folded_cube, frucht,
                         full, maps_by_trying, movings, orbits, path, petersen, refined, renamed, ring, rook, same,
                         shrikhande, shuffled, soon, turn)

# Graphs, how many movings each has, and for each point the least on which some moving puts it.
HARD = (
    (ring(16), 32, [0] * 16),
    (copies(2, ring(8)), 512, [0] * 16),
    (beside(ring(3), ring(13)), 6 * 26, [0] * 3 + [3] * 13),
    (beside(copies(4, ring(3)), ring(4)), 6 ** 4 * 24 * 8, [0] * 12 + [12] * 4),
    (beside(copies(3, ring(3)), ring(7)), 6 ** 3 * 6 * 14, [0] * 9 + [9] * 7),
    (copies(4, ring(4)), 8 ** 4 * 24, [0] * 16),
    (rook(), 1152, [0] * 16),
    (shrikhande(), 192, [0] * 16),
    (copies(8, path(2)), 2 ** 8 * factorial(8), [0] * 16),
    (cube(), 384, [0] * 16),
    (copies(2, between(4, 4)), 1152 ** 2 * 2, [0] * 16),
    (copies(4, full(4)), 24 ** 5, [0] * 16),
    (beside(frucht(), full(4)), 24, list(range(12)) + [12] * 4),
    (beside(petersen(), between(3, 3)), 120 * 72, [0] * 10 + [10] * 6),
    (folded_cube(), 1920, [0] * 16),
    (between(8, 8), 2 * factorial(8) ** 2, [0] * 16),
    (empty(16), factorial(16), [0] * 16),
    (full(16), factorial(16), [0] * 16),
)

# Pairs of graphs that are not the same, though points of the one have as many neighbours as points of the other.
OTHERS = (
    (ring(16), copies(2, ring(8))),
    (beside(copies(4, ring(3)), ring(4)), beside(copies(3, ring(3)), ring(7))),
    (copies(4, ring(4)), ring(16)),
    (rook(), shrikhande()),
    (rook(), copies(2, between(4, 4))),
    (rook(), circulant(16, (1, 2, 3))),
    (cube(), copies(2, between(4, 4))),
    (cube(), circulant(16, (1, 4))),
    (copies(4, full(4)), beside(frucht(), full(4))),
    (copies(4, full(4)), beside(petersen(), between(3, 3))),
    (folded_cube(), circulant(16, (1, 4, 8))),
    (beside(empty(10), ring(6)), beside(empty(10), copies(2, ring(3)))),
    (beside(copies(5, path(2)), ring(6)), beside(copies(5, path(2)), copies(2, ring(3)))),
    (beside(copies(3, path(3)), ring(7)), beside(copies(3, path(3)), ring(3), ring(4))),
    (full(16), empty(16)),
)


def mixed_up(shape, seed):
    return renamed(shape, shuffled(shape[0], seed))


class Hard(unittest.TestCase):
    def test_same_movings_and_orbits_of_graphs_that_are_the_same(self):
        for at, (shape, count, least) in enumerate(HARD):
            second = mixed_up(shape, at)
            first_images = next(maps_by_trying(shape, second))
            questions = [refined(), same(16), movings(0), movings(1), orbits(0, 16)]
            calls = both(shape, second) + questions + [turn(0), turn(1)] + questions
            wanted = [[1], [16] + first_images, [0, count], [0, count], [16] + least]
            with soon(30):
                found = ask(calls)
            self.assertEqual(found[-12:], wanted + [[0], [0]] + wanted)

    def test_orbits_of_graphs_with_other_names(self):
        for at, (shape, count, least) in enumerate(HARD):
            order = shuffled(16, at + 20)
            groups = {}
            for point in range(16):
                groups.setdefault(least[point], []).append(order[point])
            wanted = {point: min(group) for group in groups.values() for point in group}
            with soon(30):
                found = ask([begin()] + build(1, renamed(shape, order)) + [orbits(1, 16), turn(1), orbits(1, 16)])
            self.assertEqual(found[-1], [16] + [wanted[point] for point in range(16)])
            self.assertEqual(found[-3], found[-1])

    def test_same_of_graphs_that_are_not(self):
        for at, (first, second) in enumerate(OTHERS):
            for one, other in ((first, second), (second, first), (mixed_up(first, at), mixed_up(second, at + 1))):
                calls = both(one, other) + [same(16), turn(0), turn(1), same(0)]
                with soon(30):
                    found = ask(calls)
                self.assertEqual([found[-4], found[-1]], [[-2], [-2]])

    def test_a_line_of_400_calls_full_of_hard_ones(self):
        for first, second, images in ((rook(), shrikhande(), None), (mixed_up(rook(), 1), mixed_up(rook(), 2), 1),
                                      (cube(), mixed_up(cube(), 3), 1), (copies(2, ring(8)), ring(16), None)):
            wanted = [-2] if images is None else [16] + next(maps_by_trying(first, second))
            count = sum(1 for moving in maps_by_trying(first, first))
            questions = [same(16), movings(0), orbits(1, 16)]
            calls = both(first, second)
            room = (400 - len(calls)) // 3
            with soon(60):
                found = ask(calls + questions * room)
            self.assertEqual(found[len(calls):], [wanted, [0, count], [16] + [0] * 16] * room)

    def test_several_graphs_in_one_line(self):
        calls = []
        wanted = []
        for shape, count, least in (HARD[0], HARD[1], HARD[5], HARD[8], HARD[16], HARD[17]):
            calls += both(shape, mixed_up(shape, 7)) if len(shape[1]) <= 16 else [turn(0), turn(1)]
            wanted += [[0]] * (len(calls) - len(wanted))
            calls += [same(16), movings(0), orbits(1, 0), movings(1), orbits(0, 16)]
            images = list(range(16)) if len(shape[1]) > 16 else next(maps_by_trying(shape, mixed_up(shape, 7)))
            wanted += [[16] + images, [0, count], [16], [0, count], [16] + least]
        self.assertLessEqual(len(calls), 400)
        with soon(30):
            found = ask(calls)
        self.assertEqual(found, wanted)


if __name__ == "__main__":
    unittest.main()
