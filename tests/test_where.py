"""Promise 5, the call where."""

import unittest

from tests.plain import MOST, TOP, ask, copy, delete, doubled, insert, line, part, where


def places_of(text):
    """Line and column of every place of the text, its end too."""
    found = []
    number = column = 0
    for byte in text:
        found.append([number, column])
        number, column = (number + 1, 0) if byte == 10 else (number, column + 1)
    return found + [[number, column]]


class WhereAnswers(unittest.TestCase):
    def check(self, text):
        expected = places_of(text)
        for start in range(0, len(expected), 77):
            some = range(start, min(start + 77, len(expected)))
            told = ask(insert(0, 0, text), *[where(1, place) for place in some], where(1, len(text) + 1), where(1, TOP))
            self.assertEqual(told[1:], expected[start:start + 77] + [[-1], [-1]], text)

    def test_ordinary_texts(self):
        self.check(b"one\ntwo and more\nthree, which goes on over several leaves\nfour")
        self.check(b"a" * 60 + b"\n" + b"b" * 139)

    def test_by_hand(self):
        told = ask(insert(0, 0, b"ab\n\ncd"), *[where(1, place) for place in range(8)])
        self.assertEqual(told[1:], [[0, 0], [0, 1], [0, 2], [1, 0], [2, 0], [2, 1], [2, 2], [-1]])

    def test_no_bytes(self):
        self.assertEqual(ask(where(0, 0), where(0, 1), insert(0, 0, b"a\n"), delete(1, 0, 2), where(2, 0), where(2, 1)),
                         [[0, 0], [-1], [1, 1], [2, 0], [0, 0], [-1]])

    def test_without_a_line_feed(self):
        self.check(b"a")
        self.check(b"x" * 200)

    def test_line_feeds_first_last_and_one_behind_another(self):
        for text in (b"\n", b"\n\n", b"\nabc", b"abc\n", b"a\n\nb", b"\n" * 30, b"\n\nabcdefghijklmnop\n\n"):
            self.check(text)

    def test_line_feeds_at_the_edges_of_leaves(self):
        for place in range(26):
            self.check(b"x" * place + b"\n" + b"y" * (25 - place))

    def test_other_bytes_end_no_line(self):
        self.check(bytes(b for b in range(40) if b != 10))
        self.check(b"a\r\nb\rc\x0bd\x0ce\n")

    def test_it_is_where_line_says(self):
        text = b"ab\n\ncdefghijk\nlmnopqrstuvwxyz\n"
        lines = ask(insert(0, 0, text), *[line(1, number) for number in range(5)])[1:]
        for number, (begin, size) in enumerate(lines):
            told = ask(insert(0, 0, text), *[where(1, begin + column) for column in range(size + 1)])
            self.assertEqual(told[1:], [[number, column] for column in range(size + 1)])

    def test_of_a_text_of_2_to_40_bytes(self):
        calls = doubled([])
        end = len(calls)
        feeds = MOST // 4
        far = 123456789012
        told = ask(*calls, where(end, 0), where(end, 2), where(end, 3), where(end, MOST), where(end, MOST - 1), where(end, MOST - 5),
                   where(end, MOST // 2), where(end, MOST // 2 - 1), where(end, 8 * far + 6), where(end, MOST + 1))
        self.assertEqual(told[end:], [[0, 0], [0, 2], [1, 0], [feeds, 0], [feeds - 1, 4], [feeds - 1, 0],
                                      [feeds // 2, 0], [feeds // 2 - 1, 4], [2 * far + 1, 3], [-1]])

    def test_columns_of_2_to_38_bytes(self):
        calls = [insert(0, 0, b"abcdefgh")]
        for version in range(1, 37):
            size = 8 * 2 ** (version - 1)
            calls.append(copy(version, 0, size, version, size))
        calls.append(insert(37, 2 ** 38, b"\n"))
        told = ask(*calls, where(37, 2 ** 39), where(38, 2 ** 38), where(38, 2 ** 38 + 1), where(38, 2 ** 39 + 1), where(38, 2 ** 39 + 2))
        self.assertEqual(told[38:], [[0, 2 ** 39], [0, 2 ** 38], [1, 0], [1, 2 ** 38], [-1]])


class WhereRefusals(unittest.TestCase):
    def test_no_such_version(self):
        self.assertEqual(ask(where(1, 0), where(TOP, 0)), [[-2], [-2]])

    def test_beyond_the_bytes(self):
        told = ask(insert(0, 0, b"abc"), where(1, 3), where(1, 4), where(1, TOP), where(0, 1), where(0, 3))
        self.assertEqual(told[1:], [[0, 3], [-1], [-1], [-1], [-1]])

    def test_of_several_the_one_told_first(self):
        self.assertEqual(ask(where(1, 1), where(1, TOP)), [[-2], [-2]])

    def test_60_versions_are_no_hindrance(self):
        told = ask(*[insert(0, 0, b"a\n")] * 59, where(59, 2), where(60, 0))
        self.assertEqual(told[59:], [[1, 0], [-2]])

    def test_nothing_is_changed(self):
        told = ask(insert(0, 0, b"a\nb"), where(1, 2), where(1, 4), where(2, 0), where(1, 2), part(1, 0, 3), insert(1, 3, b"c"))
        self.assertEqual(told[4:], [[1, 0], [3] + list(b"a\nb"), [2, 1]])
