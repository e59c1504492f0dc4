"""Promise 5, the call shape."""

import unittest

from tests.plain import MOST, TOP, ask, copy, delete, doubled, everything, insert, part, shape


class ShapeAnswers(unittest.TestCase):
    def test_no_bytes(self):
        told = ask(shape(0), insert(0, 0, b""), shape(1), insert(0, 0, b"abc"), delete(2, 0, 3), shape(3))
        self.assertEqual([told[0], told[2], told[5]], [[0, 0, 0, 0, 0]] * 3)

    def test_one_leaf(self):
        for text in (b"a", b"\n", b"a\nb\n\ncd", b"\n" * 8):
            self.assertEqual(ask(insert(0, 0, text), shape(1))[1], [len(text), text.count(b"\n"), 0, 1, 1])

    def test_several_leaves(self):
        # So many leaves joined one behind another from the beginning, and so many nodes over two.
        heights = {9: 1, 16: 1, 17: 2, 32: 2, 33: 3, 64: 3, 65: 4, 128: 4, 129: 5, 200: 5}
        for size, height in heights.items():
            leaves = (size + 7) // 8
            self.assertEqual(ask(insert(0, 0, b"x\n" * 100), delete(1, 0, 200), insert(2, 0, (b"x\n" * 100)[:size]), shape(3))[3],
                             [size, size // 2, height, leaves, 2 * leaves - 1])

    def test_leaves_that_are_not_full(self):
        told = ask(insert(0, 0, b"abcdefgh"), insert(1, 4, b"12345678"), shape(2), delete(2, 4, 12), shape(3), shape(1))
        self.assertEqual(told[2], [16, 0, 2, 3, 5])
        self.assertEqual(told[4:], [[8, 0, 0, 1, 1], [8, 0, 0, 1, 1]])

    def test_line_feeds_first_last_and_one_behind_another(self):
        for text, feeds in ((b"\nabc", 1), (b"abc\n", 1), (b"a\n\nb", 2), (b"\n" * 30, 30), (b"\n\nabcdefghijklmnop\n\n", 4), (b"\r\x0b", 0)):
            self.assertEqual(ask(insert(0, 0, text), shape(1))[1][:2], [len(text), feeds])

    def test_a_copy_of_a_version_into_itself_shares_its_nodes(self):
        text = b"abcdefgh" * 3
        told = ask(insert(0, 0, text), shape(1), copy(1, 0, 24, 1, 24), shape(2), copy(2, 0, 48, 2, 0), shape(3), shape(1))
        self.assertEqual(told[1::2], [[24, 0, 2, 3, 5], [48, 0, 3, 6, 6], [96, 0, 4, 12, 7]])
        self.assertEqual(told[-1], told[1])

    def test_a_leaf_that_is_there_twice_counts_twice_as_a_leaf_and_once_as_a_node(self):
        told = ask(insert(0, 0, b"abcdefg\n"), copy(1, 0, 8, 1, 8), shape(2), copy(2, 0, 16, 2, 16), shape(3))
        self.assertEqual(told[2::2], [[16, 2, 1, 2, 2], [32, 4, 2, 4, 3]])

    def test_nodes_with_the_same_bytes_are_different_ones(self):
        told = ask(insert(0, 0, b"abcdefgh" * 2), shape(1), insert(1, 16, b"abcdefgh" * 2), shape(2))
        self.assertEqual(told[1::2], [[16, 0, 1, 2, 3], [32, 0, 2, 4, 7]])

    def test_a_delete_that_leaves_nearly_all(self):
        told = ask(insert(0, 0, b"abcdefgh" * 25), delete(1, 199, 200), delete(1, 0, 1), delete(1, 8, 16), shape(1), shape(2), shape(3), shape(4))
        self.assertEqual(told[4:7], [[200, 0, 5, 25, 49], [199, 0, 5, 25, 49], [199, 0, 5, 25, 49]])
        self.assertEqual(told[7][:2] + told[7][3:], [192, 0, 24, 47])

    def test_of_a_text_of_2_to_40_bytes(self):
        calls = doubled([])
        end = len(calls)
        told = ask(*calls, shape(1), shape(2), shape(end), shape(end - 1))
        self.assertEqual(told[end:], [[8, 2, 0, 1, 1], [16, 4, 1, 2, 2], [MOST, MOST // 4, 37, MOST // 8, 38],
                                      [MOST // 2, MOST // 8, 36, MOST // 16, 37]])

    def test_of_changes_of_a_text_of_2_to_40_bytes(self):
        calls = doubled([])
        end = len(calls)
        told = ask(*calls, delete(end, 0, 8), delete(end, MOST - 8, MOST), delete(end, MOST // 2, MOST), *[shape(end + k) for k in (1, 2, 3)])
        # Without its first leaf, a node over two is made on every level but the lowest; all old nodes but the top stay.
        self.assertEqual(told[end:end + 3], [[end + 1, 36], [end + 2, 36], [end + 3, 0]])
        self.assertEqual(told[end + 3:], [[MOST - 8, MOST // 4 - 2, 37, MOST // 8 - 1, 36 + 37], [MOST - 8, MOST // 4 - 2, 37, MOST // 8 - 1, 36 + 37],
                                          [MOST // 2, MOST // 8, 36, MOST // 16, 37]])


class ShapeRefusals(unittest.TestCase):
    def test_no_such_version(self):
        self.assertEqual(ask(shape(1), shape(TOP), shape(0)), [[-2], [-2], [0, 0, 0, 0, 0]])

    def test_60_versions_are_no_hindrance(self):
        told = ask(*[insert(0, 0, b"a\n")] * 59, shape(59), shape(60))
        self.assertEqual(told[59:], [[2, 1, 0, 1, 1], [-2]])

    def test_nothing_is_changed(self):
        told = ask(insert(0, 0, b"a\nb"), shape(1), everything(), shape(2), shape(1), everything(), part(1, 0, 3), insert(1, 3, b"c"))
        self.assertEqual(told[4:], [told[1], told[2], [3] + list(b"a\nb"), [2, 1]])
