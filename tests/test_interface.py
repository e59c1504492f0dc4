"""The interface: what goes in, what comes out, that nothing is changed or kept, and that long runs end quickly."""

import io
import random
import sys
import time
import unittest
from contextlib import redirect_stderr, redirect_stdout

import piecehouse.versions
from tests.plain import MOST, alike, ask, copy, delete, doubled, everything, flat, insert, line, longest, part, shape, where


class Watched(list):
    """A list that tells of every try to change it."""

    def refuse(self, *given):
        raise AssertionError("the list handed in is changed")

    __setitem__ = __delitem__ = __iadd__ = __imul__ = refuse
    append = extend = insert = pop = remove = clear = sort = reverse = refuse


SOME = [insert(0, 0, b"ab\ncd"), part(1, 0, 3), delete(1, 1, 4), copy(1, 0, 5, 2, 1), line(1, 1), line(1, 2), part(9, 0, 0),
        where(1, 4), longest(1), shape(3), alike(1, 0, 3, 1), everything(), where(1, 6), longest(9), shape(9), alike(9, 0, 0, 0)]


class Interface(unittest.TestCase):
    def test_the_form_of_the_answers(self):
        told = piecehouse.versions.answers(flat(SOME))
        self.assertEqual(told, [2, 1, 1, 4, 3, 97, 98, 10, 2, 2, 1, 2, 3, 1, 2, 3, 2, 1, -1, 1, -2,
                                2, 1, 1, 2, 0, 2, 5, 7, 1, 0, 1, 1, 1, 5, 2, 4, 3, 1, -1, 1, -2, 1, -2, 1, -2])
        self.assertIs(type(told), list)
        self.assertEqual({type(number) for number in told}, {int})

    def test_what_is_handed_in_is_not_changed(self):
        calls = flat(SOME)
        before = list(calls)
        piecehouse.versions.answers(calls)
        self.assertEqual(calls, before)
        self.assertEqual(piecehouse.versions.answers(Watched(calls)), piecehouse.versions.answers(calls))

    def test_nothing_is_kept_from_one_time_to_the_next(self):
        calls = flat(SOME)
        first = piecehouse.versions.answers(calls)
        other = piecehouse.versions.answers(insert(0, 0, b"other") + part(1, 0, 5))
        self.assertEqual(piecehouse.versions.answers(calls), first)
        self.assertEqual(other, [2, 1, 1, 6, 5] + list(b"other"))
        self.assertEqual(piecehouse.versions.answers(part(1, 0, 0)), [1, -2])
        self.assertEqual(piecehouse.versions.answers(everything() + shape(0)), [2, 1, 0, 5, 0, 0, 0, 0, 0])

    def test_what_is_given_back_is_a_list_of_its_own(self):
        calls = flat(SOME)
        first = piecehouse.versions.answers(calls)
        kept = list(first)
        first.clear()
        self.assertEqual(piecehouse.versions.answers(calls), kept)

    def test_nothing_is_printed_or_imported(self):
        modules = set(sys.modules)
        out = io.StringIO()
        err = io.StringIO()
        with redirect_stdout(out), redirect_stderr(err):
            piecehouse.versions.answers(flat(SOME))
        self.assertEqual((out.getvalue(), err.getvalue()), ("", ""))
        self.assertEqual(set(sys.modules), modules)

    def test_how_many_numbers_each_call_answers(self):
        begin = insert(0, 0, b"ab\ncd")
        for call, count in ((insert(1, 0, b"x"), 2), (delete(1, 0, 1), 2), (copy(1, 0, 1, 1, 0), 2), (part(1, 0, 5), 6), (part(1, 0, 0), 1),
                            (line(1, 0), 2), (where(1, 5), 2), (longest(1), 2), (shape(1), 5), (alike(1, 0, 1, 0), 1), (everything(), 2)):
            told = piecehouse.versions.answers(begin + call)
            self.assertEqual((told[3], len(told)), (count, 4 + count), call)
            self.assertGreaterEqual(min(told), 0, call)

    def test_each_call_alone(self):
        for call, told in ((insert(0, 0, b""), [2, 1, 0]), (delete(0, 0, 0), [2, 1, 0]), (copy(0, 0, 0, 0, 0), [2, 1, 0]), (part(0, 0, 0), [1, 0]),
                           (line(0, 0), [2, 0, 0]), (where(0, 0), [2, 0, 0]), (longest(0), [2, 0, 0]), (shape(0), [5, 0, 0, 0, 0, 0]),
                           (alike(0, 0, 0, 0), [1, 0]), (everything(), [2, 1, 0])):
            self.assertEqual(piecehouse.versions.answers(call), told)

    def test_calls_in_every_order(self):
        """Each call right behind each other one: none takes too many or too few numbers of the list."""
        some = [insert(0, 0, b""), insert(0, 0, b"ab"), delete(0, 0, 0), copy(0, 0, 0, 0, 0), part(0, 0, 0), line(0, 0), where(0, 0), longest(0),
                shape(0), alike(0, 0, 0, 0), everything()]
        kinds = [2, 2, 2, 2, 1, 2, 2, 2, 5, 1, 2]
        for first, count in zip(some, kinds):
            for second, other in zip(some, kinds):
                self.assertEqual([len(answer) for answer in ask(first, second, first)], [count, other, count])

    def test_calls_with_many_bytes(self):
        calls = [insert(0, 0, [k % 256] * 220) for k in range(40)] + [insert(0, 0, [k] * 200) for k in range(40)]
        told = ask(*calls)
        self.assertEqual(told, [[-1]] * 40 + [[k + 1, 49] for k in range(40)])

    def test_an_insert_of_no_bytes_between_others(self):
        self.assertEqual(ask(insert(0, 0, b""), insert(1, 0, b"a"), insert(2, 1, b""), part(3, 0, 1)),
                         [[1, 0], [2, 1], [3, 0], [1, 97]])


class LongRun(unittest.TestCase):
    def test_80_calls_up_to_2_to_40_bytes(self):
        chance = random.Random(40)
        calls = doubled([])
        end = len(calls)
        eight = b"ab\ncdef\n"
        expected = []
        while len(calls) < 80:
            if len(calls) % 2:
                place = chance.randrange(MOST - 200)
                calls.append(part(end, place, place + 200))
                expected.append([200] + list((eight * 26)[place % 8:place % 8 + 200]))
            else:
                number = chance.randrange(MOST // 4)
                calls.append(line(end, number))
                expected.append([number // 2 * 8 + number % 2 * 3, 2 + number % 2 * 2])
        begin = time.perf_counter()
        told = ask(*calls)
        self.assertLess(time.perf_counter() - begin, 5)
        self.assertEqual(told[:end], [[1, 1]] + [[version, 1] for version in range(2, end + 1)])
        self.assertEqual(told[end:], expected)

    def test_changes_all_over_a_text_of_2_to_40_bytes(self):
        chance = random.Random(41)
        calls = doubled([])
        end = len(calls)
        while len(calls) < 59:
            place = chance.randrange(MOST - 1000)
            calls.append((delete(end, place, place + 1000), copy(end, 7, place // 2, end - 5, place % 999))[len(calls) % 2])
        begin = time.perf_counter()
        told = ask(*calls)
        self.assertLess(time.perf_counter() - begin, 5)
        self.assertEqual([answer[0] for answer in told], list(range(1, 60)))
        self.assertLess(max(answer[1] for answer in told), 400)

    def test_nodes_are_counted_in_80_calls_up_to_2_to_40_bytes(self):
        chance = random.Random(42)
        calls = doubled([])
        end = len(calls)
        while len(calls) < 59:
            place = chance.randrange(MOST - 1000)
            calls.append(copy(end, place // 3, place // 2, end - 2, place // 4))
        calls += [(everything(), shape(59), longest(59), where(59, MOST // 5))[k % 4] for k in range(21)]
        begin = time.perf_counter()
        told = ask(*calls)
        self.assertLess(time.perf_counter() - begin, 5)
        self.assertEqual(told[59:][::4], [[60, sum(answer[1] for answer in told[:59])]] * 6)
        self.assertLess(told[60][4], 2000)

    def test_few_calls_within_one_another_are_needed(self):
        calls = doubled([])
        end = len(calls)
        calls += [delete(end, 3, MOST // 3), copy(end, 5, MOST // 3, end - 3, 11), insert(end, 1, b""), part(end, 1, 2),
                  line(end, MOST // 5), where(end + 1, MOST // 5), longest(end + 2), shape(end + 2), alike(end, 5, end + 1, 7), everything()]
        given = flat(calls)
        deep = sys.getrecursionlimit()
        depth = len(stack_of_now()) + 40
        sys.setrecursionlimit(depth)
        try:
            told = piecehouse.versions.answers(given)
        finally:
            sys.setrecursionlimit(deep)
        self.assertGreater(len(told), 3 * end)


def stack_of_now():
    found = []
    frame = sys._getframe()
    while frame is not None:
        found.append(frame)
        frame = frame.f_back
    return found
