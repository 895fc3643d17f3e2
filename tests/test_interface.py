"""The interface: how calls stand in the list, what is given back, and what is left alone."""

import builtins
import contextlib
import inspect
import io
import sys
import unittest
from unittest import mock

from graphsame.graphs import answers
from tests.lines import (GREATEST, LEAST, begin, build, classes, degree, edge, flat, full, graph, graphs_after,
                         numbers_from, path, ring, rounds, scattered, settle, split, star, told_by_words, turn)


class Untouched(list):
    """A list that fails where it is changed, if only for a while."""

    def refuse(self, *given, **named):
        raise AssertionError("what was handed in was changed")

    __setitem__ = __delitem__ = __iadd__ = __imul__ = refuse
    append = extend = insert = pop = remove = clear = sort = reverse = refuse


def mixed_line(seed, length):
    """A line of calls of all kinds, many of them to be refused."""
    found = numbers_from(seed)

    def one_of(*choices):
        return choices[next(found) % len(choices)]

    calls = [begin(), graph(0, 5), graph(1, 4)]
    sizes = [5, 4]
    while len(calls) < length:
        g = one_of(0, 1, 0, 1, 0, 1, 0, 1, 0, 1, 0, 1, -1, 2, LEAST, GREATEST)
        point = one_of(0, 1, 2, 3, 4, 5, 6, -1)
        kind = one_of(2, 2, 2, 2, 2, 2, 2, 3, 3, 4, 5, 6, 6, 7, 7, 1 if next(found) % 8 == 0 else 2)
        if kind == 1:
            n = one_of(0, 1, 3, 4, 5, 6, 16, 17, -1, GREATEST, LEAST)
            calls.append(graph(g, n))
            if g in (0, 1) and 0 <= n <= 16:
                sizes[g] = n
        elif kind == 2:
            calls.append(edge(g, point, one_of(0, 1, 2, 3, 4, 5, 6, 15), one_of(0, 1, 1, 1, -1, GREATEST, LEAST)))
        elif kind == 3:
            calls.append(degree(g, point))
        elif kind == 4:
            calls.append(turn(g))
        elif kind == 5 and (g not in (0, 1) or sizes[g] <= 6):
            calls.append(settle(g))
        elif kind == 6:
            calls.append(classes(g, one_of(0, 1, 3, 5, 16, 17, -1, LEAST, GREATEST)))
        elif kind == 7:
            calls.append(rounds(g))
        if next(found) % 150 == 0:
            calls.append(begin())
            sizes = [0, 0]
    return calls[:length]


class GivenBack(unittest.TestCase):
    def test_begin_alone(self):
        self.assertEqual(answers([0]), [1, 0])

    def test_a_whole_line_number_by_number(self):
        told = answers([0,
                        1, 0, 3,
                        2, 0, 0, 1, 5,
                        3, 0, 1,
                        6, 0, 16,
                        7, 0,
                        6, 0, 2,
                        6, 0, 17,
                        5, 0,
                        6, 0, 3,
                        4, 0,
                        3, 0, 0,
                        3, 0, 3,
                        6, 1, 16,
                        7, 1,
                        2, 1, 0, 1, 1,
                        1, 2, 4,
                        0,
                        6, 0, 16])
        self.assertEqual(told, [1, 0,
                                1, 0,
                                1, 0,
                                1, 1,
                                4, 3, 0, 0, 2,
                                1, 1,
                                3, 3, 0, 0,
                                1, 3,
                                1, 0,
                                4, 3, 0, 1, 1,
                                1, 0,
                                1, 2,
                                1, -1,
                                1, 0,
                                1, 0,
                                1, -1,
                                1, -1,
                                1, 0,
                                1, 0])

    def test_a_refusal_is_its_number_alone_and_changes_nothing(self):
        before = [begin()] + build(0, path(4)) + build(1, star(3))
        refused = [graph(0, 17), graph(2, 3), edge(0, 0, 4), edge(0, 1, 1), edge(-1, 0, 1), degree(0, -1),
                   degree(5, 0), turn(2), turn(-1), settle(2), settle(-1), classes(2, 16), classes(-1, 1), rounds(2),
                   rounds(-1)]
        told = answers(flat(before + refused))
        self.assertEqual(told, [1, 0] * len(before) + [1, -1] * len(refused))
        self.assertEqual(graphs_after(before + refused), (path(4), star(3)))

    def test_plain_whole_numbers_in_a_plain_list(self):
        told = answers(flat(mixed_line(3, 200)))
        self.assertIs(type(told), list)
        self.assertEqual({type(number) for number in told}, {int})

    def test_whole_numbers_at_both_ends(self):
        for end in (LEAST, GREATEST):
            calls = [begin(), graph(0, 2), graph(end, 2), graph(0, end), edge(end, 0, 1), edge(0, end, 1),
                     edge(0, 0, end), edge(0, end, end), edge(0, 0, 1, end), degree(0, end), degree(end, 0),
                     degree(0, 0), turn(end), settle(end), classes(end, 2), classes(0, end), rounds(end), rounds(0)]
            wanted = [[0], [0], [-1], [-1], [-1], [-1], [-1], [-1], [0], [-1], [-1], [1], [-1], [-1], [-1], [2],
                      [-1], [0]]
            self.assertEqual(split(answers(flat(calls))), wanted)


class LongLines(unittest.TestCase):
    def test_400_calls_of_one_kind(self):
        self.assertEqual(answers([0] * 400), [1, 0] * 400)
        for call, reply in ((turn(0), [0]), (classes(1, 16), [16] + list(range(8)) + list(range(7, -1, -1))),
                            (rounds(1), [7]), (degree(1, 3), [2]), (settle(0), [0])):
            before = [begin(), graph(0, 7)] + build(1, path(16))
            calls = before + [call] * (400 - len(before))
            wanted = [1, 0] * len(before) + ([len(reply)] + reply) * (400 - len(before))
            self.assertEqual(answers(flat(calls)), wanted)

    def test_400_mixed_calls_by_the_words(self):
        for seed in range(12):
            calls = mixed_line(seed, 400)
            self.assertEqual(len(calls), 400)
            self.assertEqual(answers(flat(calls)), told_by_words(calls))

    def test_short_mixed_lines_by_the_words(self):
        for seed in range(100, 140):
            calls = mixed_line(seed, 20)
            self.assertEqual(answers(flat(calls)), told_by_words(calls))

    def test_needs_few_calls_within_one_another(self):
        line = flat(mixed_line(4, 400))
        big = flat([begin()] + build(0, full(16)) + build(1, scattered(16, 50, 2)) + [rounds(0), classes(1, 16)] * 20)
        wanted = [answers(line), answers(big)]
        limit = sys.getrecursionlimit()
        try:
            sys.setrecursionlimit(len(inspect.stack()) + 40)
            found = [answers(line), answers(big)]
        finally:
            sys.setrecursionlimit(limit)
        self.assertEqual(found, wanted)


class LeftAlone(unittest.TestCase):
    def test_what_is_handed_in_is_not_changed_not_for_a_while_either(self):
        for seed in range(5):
            line = flat(mixed_line(seed, 150))
            handed = Untouched(line)
            self.assertEqual(answers(handed), answers(line))
            self.assertEqual(list(handed), line)

    def test_nothing_is_kept_from_one_time_to_the_next(self):
        first = flat(mixed_line(8, 120))
        second = flat([begin()] + build(0, ring(6)) + [classes(0, 16), rounds(1)])
        told = answers(first)
        self.assertEqual(answers(first), told)
        between = answers(second)
        self.assertEqual(answers(first), told)
        self.assertEqual(answers(second), between)

    def test_what_is_given_back_is_the_callers_own(self):
        line = flat([begin()] + build(0, path(5)) + [classes(0, 16), rounds(0), degree(0, 9)])
        told = answers(line)
        wanted = list(told)
        told[:] = [9] * len(told)
        self.assertEqual(answers(line), wanted)

    def test_prints_reads_and_imports_nothing(self):
        line = flat(mixed_line(6, 200))
        wanted = answers(line)
        shown = io.StringIO()
        forbidden = mock.Mock(side_effect=AssertionError("reads or imports"))
        with contextlib.redirect_stdout(shown), contextlib.redirect_stderr(shown), \
                mock.patch.object(builtins, "open", forbidden), mock.patch.object(builtins, "input", forbidden), \
                mock.patch.object(sys, "stdin", None), mock.patch.object(builtins, "__import__", forbidden):
            told = answers(line)
        self.assertEqual(told, wanted)
        self.assertEqual(shown.getvalue(), "")
        self.assertFalse(forbidden.called)


if __name__ == "__main__":
    unittest.main()
