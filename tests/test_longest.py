"""Promise 5, the call longest."""

import itertools
import unittest

from tests.plain import MOST, TOP, ask, copy, delete, doubled, house_after, insert, longest, part


def longest_of(text):
    sizes = [len(one) for one in text.split(b"\n")]
    return [sizes.index(max(sizes)), max(sizes)]


class LongestAnswers(unittest.TestCase):
    def check(self, text):
        self.assertEqual(ask(insert(0, 0, text), longest(1))[1], longest_of(text), text)

    def test_by_hand(self):
        for text, expected in ((b"ab", [0, 2]), (b"ab\ncde\nfg", [1, 3]), (b"ab\n\ncd", [0, 2]), (b"a\nb\ncd", [2, 2]), (b"\na", [1, 1]),
                               (b"one\ntwo and more\nthree, which goes on over several leaves\nfour", [2, 40])):
            self.assertEqual(ask(insert(0, 0, text), longest(1))[1], expected, text)

    def test_no_bytes(self):
        self.assertEqual(ask(longest(0), insert(0, 0, b""), longest(1), insert(0, 0, b"a\nbc"), delete(2, 0, 4), longest(3)),
                         [[0, 0], [1, 0], [0, 0], [2, 1], [3, 0], [0, 0]])

    def test_without_a_line_feed(self):
        for size in (1, 7, 8, 9, 16, 17, 200):
            self.assertEqual(ask(insert(0, 0, b"x" * size), longest(1))[1], [0, size])

    def test_line_feeds_alone(self):
        for count in (1, 2, 8, 9, 30, 200):
            self.assertEqual(ask(insert(0, 0, b"\n" * count), longest(1))[1], [0, 0])

    def test_line_feeds_first_last_and_one_behind_another(self):
        for text in (b"\nabc", b"abc\n", b"a\n\nb", b"\n\nabcdefghijklmnop\n\n", b"\n" * 20 + b"a" + b"\n" * 20):
            self.check(text)

    def test_the_first_of_several(self):
        self.assertEqual(ask(insert(0, 0, b"a\nbcd\nefg\nh\nijk"), longest(1))[1], [1, 3])
        self.assertEqual(ask(insert(0, 0, b"\n".join([b"abcdefghijklmno"] * 12)), longest(1))[1], [0, 15])
        self.assertEqual(ask(insert(0, 0, b"a\n" + b"\n".join([b"abcdefg"] * 20)), longest(1))[1], [1, 7])

    def test_every_small_text_cut_into_leaves_of_every_size(self):
        for signs in itertools.product(b"a\n", repeat=7):
            text = bytes(signs)
            filler = b"--------"
            for place in range(1, 7):
                # What is put in between keeps the two ends apart in leaves of their own, and is taken out again.
                calls = [insert(0, 0, text), insert(1, place, filler), delete(2, place, place + 8), longest(1), longest(2), longest(3)]
                expected = [longest_of(text), longest_of(text[:place] + filler + text[place:]), longest_of(text)]
                self.assertEqual(ask(*calls)[3:], expected, (text, place))

    def test_lines_over_the_edges_of_leaves(self):
        for first in range(0, 20):
            for second in range(0, 20):
                self.check(b"x" * first + b"\n" + b"y" * second + b"\n" + b"z" * 11)

    def test_three_leaves_with_feeds_anywhere(self):
        for places in itertools.combinations(range(24), 3):
            text = bytes(10 if place in places else 97 for place in range(24))
            self.check(text)

    def test_other_bytes_end_no_line(self):
        self.check(bytes(b for b in range(40) if b != 10))
        self.check(b"a\r\nb\rc\x0bd\x0ce\n")

    def test_of_a_text_of_2_to_40_bytes(self):
        calls = doubled([])
        end = len(calls)
        told = ask(*calls, longest(end), insert(end - 1, MOST // 4 - 3, b"xyz"), longest(end + 1), delete(end, 7, 8), longest(end + 2),
                   delete(end, MOST - 1, MOST), longest(end + 3), delete(end, MOST - 6, MOST - 5), longest(end + 4))
        self.assertEqual(told[end:][::2], [[1, 4], [MOST // 16 - 1, 7], [1, 6], [1, 4], [MOST // 4 - 2, 6]])

    def test_lines_of_2_to_38_bytes(self):
        calls = [insert(0, 0, b"abcdefgh")]
        for version in range(1, 37):
            size = 8 * 2 ** (version - 1)
            calls.append(copy(version, 0, size, version, size))
        half = 2 ** 38
        calls += [insert(37, half, b"\n"), insert(37, half + 1, b"\n"), insert(37, half - 1, b"\n"), insert(37, 0, b"\n")]
        told = ask(*calls, longest(37), longest(38), longest(39), longest(40), longest(41))
        self.assertEqual(told[41:], [[0, 2 * half], [0, half], [0, half + 1], [1, half + 1], [1, 2 * half]])

    def test_every_node_knows_its_own(self):
        text = b"\n".join([b"a" * size for size in (3, 9, 0, 17, 1, 17, 30, 2, 0, 0, 30, 5)])
        waiting = [(house_after(insert(0, 0, text)).trees[1], text)]
        while waiting:
            node, content = waiting.pop()
            self.assertEqual(list(node.longest), longest_of(content))
            self.assertEqual((node.head, node.tail), (len(content.split(b"\n")[0]), len(content.split(b"\n")[-1])))
            if node.height > 0:
                waiting += [(node.first, content[:node.first.size]), (node.second, content[node.first.size:])]


class LongestRefusals(unittest.TestCase):
    def test_no_such_version(self):
        self.assertEqual(ask(longest(1), longest(TOP), longest(0)), [[-2], [-2], [0, 0]])

    def test_60_versions_are_no_hindrance(self):
        told = ask(*[insert(0, 0, b"\na")] * 59, longest(59), longest(60))
        self.assertEqual(told[59:], [[1, 1], [-2]])

    def test_nothing_is_changed(self):
        told = ask(insert(0, 0, b"a\nb"), longest(1), longest(2), longest(1), part(1, 0, 3), insert(1, 3, b"c"), longest(1), longest(2))
        self.assertEqual(told[3:], [[0, 1], [3] + list(b"a\nb"), [2, 1], [0, 1], [1, 2]])
