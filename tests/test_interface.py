"""The interface: how calls stand in the list, what is given back, and what is left alone."""

import builtins
import contextlib
import inspect
import io
import sys
import unittest
from unittest import mock

from graphsame.graphs import answers
from tests.lines import (GREATEST, LEAST, apart, begin, both, build, circles, classes, copies, degree, edge, flat, full,
                         graph, graphs_after, movings, numbers_from, orbits, path, refined, ring, rook, rounds, same,
                         scattered, settle, shrikhande, split, star, told_by_words, trees, turn, walks)


class Untouched(list):
    """A list that fails where it is changed, if only for a while."""

    def refuse(self, *given, **named):
        raise AssertionError("what was handed in was changed")

    __setitem__ = __delitem__ = __iadd__ = __imul__ = refuse
    append = extend = insert = pop = remove = clear = sort = reverse = refuse


class Mixer:
    """Draws calls of all kinds, many of them to be refused, on graphs small enough for the plain reckoning."""

    def __init__(self, seed):
        self.found = numbers_from(seed)
        self.sizes = [0, 0]

    def one_of(self, *choices):
        return choices[next(self.found) % len(choices)]

    def graph(self):
        return self.one_of(0, 1, 0, 1, 0, 1, 0, 1, 0, 1, 0, 1, -1, 2, LEAST, GREATEST)

    def point(self):
        return self.one_of(0, 1, 2, 3, 4, 5, 6, -1, self.one_of(7, 15, 16, LEAST, GREATEST))

    def most(self):
        return self.one_of(0, 1, 3, 5, 16, 16, 16, 17, -1, LEAST, GREATEST)

    def steps(self):
        return self.one_of(0, 1, 2, 3, 7, 40, 63, 64, 65, -1, LEAST, GREATEST)

    def hung(self):
        found = [next(self.found) % (i + 1) for i in range(next(self.found) % 16)]
        if found and next(self.found) % 4 == 0:
            found[next(self.found) % len(found)] = self.one_of(1, 2, 15, 255)
        return found

    def is_small(self, g):
        return g not in (0, 1) or self.sizes[g] <= 6

    def begin(self):
        self.sizes = [0, 0]
        return [begin()]

    def resize(self):
        g, n = self.graph(), self.one_of(0, 1, 3, 4, 4, 5, 5, 6, 16, 17, -1, GREATEST, LEAST)
        if g in (0, 1) and 0 <= n <= 16:
            self.sizes[g] = n
        return [graph(g, n)]

    def edges(self):
        return [edge(self.graph(), self.point(), self.point(), self.one_of(0, 1, 1, 1, 1, -1, GREATEST, LEAST))
                for times in range(3)]

    def form_then_maps(self):
        """Both graphs turned or settled, then asked whether they are the same, and for orbits."""
        if not (self.is_small(0) and self.is_small(1)):
            return []
        call = self.one_of(turn, settle)
        return [call(0), call(1), same(16), orbits(0, 16), movings(1)]

    def copied(self):
        """The same graph twice, the points of the second in the other order."""
        n = self.one_of(3, 4, 5, 6)
        self.sizes = [n, n]
        pairs = [(u, v) for u in range(n) for v in range(u) if next(self.found) % 2 == 0]
        built = [graph(0, n), graph(1, n)] + [edge(0, u, v) for u, v in pairs]
        return built + [edge(1, n - 1 - u, n - 1 - v) for u, v in pairs] + [same(self.most()), refined()]

    def changes(self):
        g = self.graph()
        kind = next(self.found) % 20
        if kind == 0:
            return self.begin()
        if kind < 3:
            return self.resize()
        if kind < 4:
            return self.copied()
        if kind < 6:
            return self.form_then_maps()
        if kind < 8:
            return [turn(g)]
        if kind < 10:
            return [settle(g)] if self.is_small(g) else []
        return self.edges()

    def questions(self):
        g = self.graph()
        found = [degree(g, self.point()), classes(g, self.most()), rounds(g), apart(self.point(), self.point()),
                 refined(), walks(g, self.steps()), circles(g, self.steps()), trees(g, self.hung())]
        if self.is_small(g):
            found += [movings(g), orbits(g, self.most())]
        if self.is_small(0) and self.is_small(1):
            found += [same(self.most())]
        return [self.one_of(*found)]


def mixed_line(seed, length):
    """A line of so many calls of all sixteen kinds among one another."""
    mixer = Mixer(seed)
    calls = mixer.begin() + mixer.copied()
    while len(calls) < length:
        calls += mixer.changes() + mixer.questions() + mixer.questions()
    return calls[:length]


class GivenBack(unittest.TestCase):
    def test_begin_alone(self):
        self.assertEqual(answers([0]), [1, 0])

    def test_a_whole_line_number_by_number(self):
        told = answers([0,
                        1, 0, 3,
                        2, 0, 0, 1, 5,
                        3, 0, 1,
                        6, 0, 16,
                        7, 0,
                        6, 0, 2,
                        6, 0, 17,
                        5, 0,
                        6, 0, 3,
                        4, 0,
                        3, 0, 0,
                        3, 0, 3,
                        6, 1, 16,
                        7, 1,
                        2, 1, 0, 1, 1,
                        1, 2, 4,
                        0,
                        6, 0, 16,
                        9,
                        10, 16,
                        1, 0, 3,
                        2, 0, 0, 1, 1,
                        1, 1, 3,
                        2, 1, 1, 2, 1,
                        8, 0, 0,
                        8, 2, 0,
                        8, 0, 3,
                        9,
                        10, 16,
                        10, 2,
                        10, 0,
                        11, 0,
                        11, 2,
                        12, 1, 16,
                        12, -1, 16,
                        13, 0, 3,
                        13, 0, 65,
                        14, 0, 2,
                        14, 0, -1,
                        15, 0, 0,
                        15, 1, 3, 0, 1, 0,
                        15, 2, 2, 0, 0,
                        15, 0, 1, 1,
                        4, 1,
                        10, 16,
                        3, 1, 0])
        self.assertEqual(told, [1, 0,
                                1, 0,
                                1, 0,
                                1, 1,
                                4, 3, 0, 0, 2,
                                1, 1,
                                3, 3, 0, 0,
                                1, 3,
                                1, 0,
                                4, 3, 0, 1, 1,
                                1, 0,
                                1, 2,
                                1, -1,
                                1, 0,
                                1, 0,
                                1, -1,
                                1, -1,
                                1, 0,
                                1, 0,
                                1, 1,
                                1, 0,
                                1, 0,
                                1, 0,
                                1, 0,
                                1, 0,
                                1, 1,
                                1, -2,
                                1, -1,
                                1, 1,
                                4, 3, 1, 2, 0,
                                3, 3, 1, 2,
                                1, 3,
                                2, 0, 2,
                                1, -1,
                                4, 3, 0, 1, 1,
                                1, -1,
                                2, 0, 2,
                                1, -1,
                                2, 0, 2,
                                1, -1,
                                2, 0, 3,
                                2, 0, 2,
                                1, -1,
                                1, -1,
                                1, 0,
                                1, -2,
                                1, 2])

    def test_a_refusal_is_its_number_alone_and_changes_nothing(self):
        before = [begin()] + build(0, path(4)) + build(1, star(3))
        refused = [graph(0, 17), graph(2, 3), edge(0, 0, 4), edge(0, 1, 1), edge(-1, 0, 1), degree(0, -1),
                   degree(5, 0), turn(2), turn(-1), settle(2), settle(-1), classes(2, 16), classes(-1, 1), rounds(2),
                   rounds(-1), apart(4, 0), apart(0, 3), apart(-1, -1), movings(2), movings(-1), orbits(2, 16),
                   orbits(-1, 0), walks(2, 1), walks(0, 65), walks(0, -1), circles(-1, 1), circles(1, 65),
                   circles(1, -1), trees(2, ()), trees(-1, (0, 1)), trees(0, (1,)), trees(1, (0, 2))]
        told = answers(flat(before + refused))
        self.assertEqual(told, [1, 0] * len(before) + [1, -1] * len(refused))
        self.assertEqual(graphs_after(before + refused), (path(4), star(3)))

    def test_there_is_none_is_its_number_alone_and_changes_nothing(self):
        before = both(path(4), star(3))
        asked = [same(16), same(0), apart(0, 1), same(1)]
        self.assertEqual(split(answers(flat(before + asked)))[len(before):], [[-2], [-2], [3], [-2]])
        self.assertEqual(graphs_after(before + asked), (path(4), star(3)))
        before = both(ring(4), ring(5))
        self.assertEqual(split(answers(flat(before + [apart(0, 0)])))[-1], [-2])
        self.assertEqual(graphs_after(before + [apart(0, 0)]), (ring(4), ring(5)))

    def test_plain_whole_numbers_in_a_plain_list(self):
        told = answers(flat(mixed_line(3, 200)))
        self.assertIs(type(told), list)
        self.assertEqual({type(number) for number in told}, {int})

    def test_whole_numbers_at_both_ends(self):
        for end in (LEAST, GREATEST):
            calls = [begin(), graph(0, 2), graph(end, 2), graph(0, end), edge(end, 0, 1), edge(0, end, 1),
                     edge(0, 0, end), edge(0, end, end), edge(0, 0, 1, end), degree(0, end), degree(end, 0),
                     degree(0, 0), turn(end), settle(end), classes(end, 2), classes(0, end), rounds(end), rounds(0)]
            wanted = [[0], [0], [-1], [-1], [-1], [-1], [-1], [-1], [0], [-1], [-1], [1], [-1], [-1], [-1], [2],
                      [-1], [0]]
            calls += [graph(1, 2), same(end), turn(1), same(end), apart(end, 0), apart(0, end), movings(end),
                      orbits(end, 2), orbits(0, end), walks(end, 1), walks(0, end), circles(end, 1), circles(0, end),
                      trees(end, ()), trees(end, (0, 1)), degree(1, 1)]
            wanted += [[0], [-2], [0], [2], [-1], [-1], [-1], [-1], [2], [-1], [-1], [-1], [-1], [-1], [-1], [1]]
            self.assertEqual(split(answers(flat(calls))), wanted)


class LongLines(unittest.TestCase):
    def check(self, calls, wanted):
        """Whether the line is told as wanted; the first answer that isn't is shown, not the whole of a long line."""
        told = answers(flat(calls))
        if told != wanted:
            for call, found, reply in zip(calls, split(told), split(wanted)):
                self.assertEqual(found, reply, f"to {call}")
            self.fail("not as many answers as calls")

    def test_400_calls_of_one_kind(self):
        self.check([begin()] * 400, [1, 0] * 400)
        halves = list(range(8)) + list(range(7, -1, -1))
        for call, reply in ((turn(0), [0]), (classes(1, 16), [16] + halves), (rounds(1), [7]), (degree(1, 3), [2]),
                            (settle(0), [0]), (apart(6, 0), [1]), (refined(), [0]), (same(16), [-2]),
                            (movings(1), [0, 2]), (orbits(1, 16), [16] + halves), (walks(0, 64), [0, 0]),
                            (circles(1, 2), [0, 30]), (trees(1, [0] * 15), [0, 2 + 14 * 2 ** 15])):
            before = [begin(), graph(0, 7)] + build(1, path(16))
            calls = before + [call] * (400 - len(before))
            self.check(calls, [1, 0] * len(before) + ([len(reply)] + reply) * (400 - len(before)))

    def test_all_sixteen_calls_are_drawn(self):
        drawn = [mixed_line(seed, 400) for seed in range(8)]
        for calls in drawn:
            self.assertEqual(len(calls), 400)
            self.assertEqual({call[0] for call in calls}, set(range(16)))
            self.assertIn(begin(), calls[20:])
        told = [reply for calls in drawn for call, reply in zip(calls, split(answers(flat(calls))))
                if call[0] in (8, 10)]
        # Not all maps asked for are there, nor none, and points are apart one deep and deeper.
        self.assertTrue({-1, -2, 1, 2, 3} <= {reply[0] for reply in told if len(reply) == 1})
        self.assertTrue({4, 5, 6, 7} <= {len(reply) for reply in told})

    def test_400_mixed_calls_by_the_words(self):
        for seed in range(8):
            calls = mixed_line(seed, 400)
            self.check(calls, told_by_words(calls))

    def test_short_mixed_lines_by_the_words(self):
        for seed in range(100, 160):
            calls = mixed_line(seed, 40)
            self.check(calls, told_by_words(calls))

    def test_needs_few_calls_within_one_another(self):
        line = flat(mixed_line(4, 400))
        asked = [rounds(0), classes(1, 16), same(16), movings(0), orbits(0, 16), movings(1), orbits(1, 16),
                 trees(0, range(15)), circles(1, 64)]
        lines = [line] + [flat(both(first, second) + asked)
                          for first, second in ((full(16), scattered(16, 50, 2)), (rook(), shrikhande()),
                                                (path(16), path(16)), (copies(8, path(2)), copies(8, path(2))))]
        wanted = [answers(line) for line in lines]
        limit = sys.getrecursionlimit()
        try:
            sys.setrecursionlimit(len(inspect.stack()) + 60)
            found = [answers(line) for line in lines]
        finally:
            sys.setrecursionlimit(limit)
        self.assertEqual(found, wanted)


class LeftAlone(unittest.TestCase):
    def test_what_is_handed_in_is_not_changed_not_for_a_while_either(self):
        for seed in range(5):
            line = flat(mixed_line(seed, 400))
            handed = Untouched(line)
            self.assertEqual(answers(handed), answers(line))
            self.assertEqual(list(handed), line)

    def test_nothing_is_kept_from_one_time_to_the_next(self):
        first = flat(mixed_line(8, 400))
        second = flat(both(ring(6), ring(6)) + [classes(0, 16), rounds(1), same(16), movings(0), orbits(1, 16)])
        told = answers(first)
        self.assertEqual(answers(first), told)
        between = answers(second)
        self.assertEqual(answers(first), told)
        self.assertEqual(answers(second), between)

    def test_what_is_given_back_is_the_callers_own(self):
        line = flat(both(path(5), path(5)) + [classes(0, 16), rounds(0), degree(0, 9), same(16), orbits(1, 16)])
        told = answers(line)
        wanted = list(told)
        told[:] = [9] * len(told)
        self.assertEqual(answers(line), wanted)

    def test_prints_reads_and_imports_nothing(self):
        line = flat(mixed_line(6, 200))
        wanted = answers(line)
        shown = io.StringIO()
        forbidden = mock.Mock(side_effect=AssertionError("reads or imports"))
        with contextlib.redirect_stdout(shown), contextlib.redirect_stderr(shown), \
                mock.patch.object(builtins, "open", forbidden), mock.patch.object(builtins, "input", forbidden), \
                mock.patch.object(sys, "stdin", None), mock.patch.object(builtins, "__import__", forbidden):
            told = answers(line)
        self.assertEqual(told, wanted)
        self.assertEqual(shown.getvalue(), "")
        self.assertFalse(forbidden.called)


if __name__ == "__main__":
    unittest.main()
