"""Promise 4: part."""

import unittest

from tests.plain import MOST, TOP, ask, delete, doubled, insert, part


class PartAnswers(unittest.TestCase):
    def test_every_part_of_a_text(self):
        text = bytes(range(40, 75))
        pairs = [(begin, end) for begin in range(36) for end in range(begin, 36)]
        for start in range(0, len(pairs), 79):
            some = pairs[start:start + 79]
            told = ask(insert(0, 0, text), *[part(1, begin, end) for begin, end in some])
            self.assertEqual(told[1:], [[end - begin] + list(text[begin:end]) for begin, end in some])

    def test_no_bytes(self):
        told = ask(part(0, 0, 0), insert(0, 0, b"abc"), part(1, 0, 0), part(1, 2, 2), part(1, 3, 3), delete(1, 0, 3), part(2, 0, 0))
        self.assertEqual([told[k] for k in (0, 2, 3, 4, 6)], [[0]] * 5)

    def test_200_bytes_and_201(self):
        text = [k % 251 for k in range(200)]
        told = ask(insert(0, 0, text), insert(1, 200, b"xy"), part(2, 0, 200), part(2, 2, 202), part(2, 0, 201), part(2, 1, 202),
                   part(1, 0, 200))
        self.assertEqual(told[2:], [[200] + text, [200] + text[2:] + list(b"xy"), [-1], [-1], [200] + text])

    def test_of_a_text_of_2_to_40_bytes(self):
        calls = doubled([])
        end = len(calls)
        eight = b"ab\ncdef\n"
        told = ask(*calls, part(end, MOST - 200, MOST), part(end, MOST // 2 - 3, MOST // 2 + 3), part(end, MOST, MOST),
                   part(end, MOST, MOST + 1), part(end, 0, MOST))
        self.assertEqual(told[end:], [[200] + list(eight * 25), [6] + list(b"ef\nab\n"), [0], [-1], [-1]])


class PartRefusals(unittest.TestCase):
    def test_no_such_version(self):
        self.assertEqual(ask(part(1, 0, 0), part(TOP, 0, 0)), [[-2], [-2]])

    def test_range(self):
        told = ask(insert(0, 0, b"abc"), part(1, 2, 1), part(1, 0, 4), part(1, 4, 4), part(1, TOP, TOP), part(0, 0, 1))
        self.assertEqual(told[1:], [[-1]] * 5)

    def test_of_several_the_one_told_first(self):
        self.assertEqual(ask(part(1, 2, 1), part(1, 0, 201)), [[-2], [-2]])

    def test_60_versions_are_no_hindrance(self):
        told = ask(*[insert(0, 0, b"a")] * 59, part(59, 0, 1), part(60, 0, 0))
        self.assertEqual(told[59:], [[1, 97], [-2]])

    def test_nothing_is_changed(self):
        told = ask(insert(0, 0, b"abc"), part(1, 0, 3), part(1, 0, 4), part(2, 0, 0), part(1, 0, 3), insert(1, 3, b"d"))
        self.assertEqual(told[4:], [[3] + list(b"abc"), [2, 1]])
