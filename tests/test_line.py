"""Promise 5, the call line."""

import unittest

from tests.plain import MOST, TOP, ask, doubled, insert, line


def lines_of(text):
    found = []
    begin = 0
    for one in text.split(b"\n"):
        found.append([begin, len(one)])
        begin += len(one) + 1
    return found


class LineAnswers(unittest.TestCase):
    def check(self, text):
        expected = lines_of(text)
        told = ask(insert(0, 0, text), *[line(1, k) for k in range(len(expected))], line(1, len(expected)), line(1, TOP))
        self.assertEqual(told[1:], expected + [[-1], [-1]], text)

    def test_ordinary_lines(self):
        self.check(b"one\ntwo and more\nthree, which goes on over several leaves\nfour")

    def test_no_bytes_are_one_empty_line(self):
        self.assertEqual(ask(line(0, 0), line(0, 1), insert(0, 0, b""), line(1, 0), line(1, 1)),
                         [[0, 0], [-1], [1, 0], [0, 0], [-1]])

    def test_empty_lines(self):
        for text in (b"\n", b"\n\n", b"\nabc", b"abc\n", b"a\n\nb", b"\n" * 30, b"\n\nabcdefghijklmnop\n\n"):
            self.check(text)

    def test_line_feeds_at_the_edges_of_leaves(self):
        for place in range(26):
            self.check(b"x" * place + b"\n" + b"y" * (25 - place))

    def test_other_bytes_end_no_line(self):
        self.check(bytes(b for b in range(40) if b != 10))
        self.check(b"a\r\nb\rc\x0bd\x0ce\n")

    def test_of_a_text_of_2_to_40_bytes(self):
        calls = doubled([])
        end = len(calls)
        feeds = MOST // 4
        told = ask(*calls, line(end, 0), line(end, 1), line(end, 2), line(end, feeds - 1), line(end, feeds), line(end, feeds + 1),
                   line(end, feeds // 2), line(end, feeds // 2 - 1), line(end, 2 * 123456789012 + 1))
        self.assertEqual(told[end:], [[0, 2], [3, 4], [8, 2], [MOST - 5, 4], [MOST, 0], [-1],
                                      [MOST // 2, 2], [MOST // 2 - 5, 4], [8 * 123456789012 + 3, 4]])

    def test_a_line_of_2_to_40_bytes_less_a_few(self):
        calls = [insert(0, 0, b"abcdefgh")]
        for version in range(1, 37):
            size = 8 * 2 ** (version - 1)
            calls.append([2, version, 0, size, version, size])
        calls.append(insert(37, 2 ** 38, b"\n"))
        told = ask(*calls, line(38, 0), line(38, 1), line(38, 2), line(37, 0))
        self.assertEqual(told[38:], [[0, 2 ** 38], [2 ** 38 + 1, 2 ** 38], [-1], [0, 2 ** 39]])


class LineRefusals(unittest.TestCase):
    def test_no_such_version(self):
        self.assertEqual(ask(line(1, 0), line(TOP, 0)), [[-2], [-2]])

    def test_of_several_the_one_told_first(self):
        self.assertEqual(ask(line(1, 1), line(1, TOP)), [[-2], [-2]])

    def test_nothing_is_changed(self):
        told = ask(insert(0, 0, b"a\nb"), line(1, 0), line(1, 2), line(2, 0), line(1, 1), insert(1, 3, b"c"))
        self.assertEqual(told[4:], [[2, 1], [2, 1]])
