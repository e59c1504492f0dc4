"""Promise 1: insert."""

import unittest

from tests.plain import MOST, TOP, ask, copy, delete, doubled, house_after, insert, line, nested, part


class InsertAnswers(unittest.TestCase):
    def test_bytes_are_put_in_at_the_place(self):
        told = ask(insert(0, 0, b"hello"), insert(1, 2, b"--"), insert(1, 0, b"<"), insert(1, 5, b">"),
                   part(1, 0, 5), part(2, 0, 7), part(3, 0, 6), part(4, 0, 6), part(0, 0, 0))
        self.assertEqual([answer[0] for answer in told[:4]], [1, 2, 3, 4])
        self.assertEqual([bytes(answer[1:]) for answer in told[4:]],
                         [b"hello", b"he--llo", b"<hello", b"hello>", b""])

    def test_a_made_tree_has_leaves_of_8(self):
        counts = {0: 0, 1: 1, 8: 1, 9: 3, 16: 3, 17: 5, 24: 5, 25: 7, 32: 7, 33: 9, 200: 49}
        for count, nodes in counts.items():
            self.assertEqual(ask(insert(0, 0, [7] * count)), [[1, nodes]], count)

    def test_a_made_tree_is_joined_from_the_beginning(self):
        house = house_after(insert(0, 0, b"aaaaaaaabbbbbbbbccccccccdd"))
        self.assertEqual(nested(house.trees[1]), ((b"aaaaaaaa", b"bbbbbbbb"), (b"cccccccc", b"dd")))
        house = house_after(insert(0, 0, b"aaaaaaaabbbbbbbbcc"))
        self.assertEqual(nested(house.trees[1]), ((b"aaaaaaaa", b"bbbbbbbb"), b"cc"))

    def test_no_bytes_put_in(self):
        begin = insert(0, 0, b"abcdefgh")
        self.assertEqual(ask(insert(0, 0, b"")), [[1, 0]])
        self.assertEqual(ask(begin, insert(1, 0, b""), insert(1, 8, b""))[1:], [[2, 0], [3, 0]])
        # The leaf is parted, and both parts are sewn together as a new one.
        self.assertEqual(ask(begin, insert(1, 3, b""), part(2, 0, 8))[1:], [[2, 1], [8] + list(b"abcdefgh")])

    def test_leaves_of_8_and_9_bytes_together(self):
        begin = insert(0, 0, b"abcd")
        self.assertEqual(ask(begin, insert(1, 4, b"efgh"))[1], [2, 1])
        self.assertEqual(ask(begin, insert(1, 0, b"efgh"))[1], [2, 1])
        # The old leaf stays; a leaf and the node over both are new.
        self.assertEqual(ask(begin, insert(1, 4, b"efghi"))[1], [2, 2])
        self.assertEqual(ask(begin, insert(1, 0, b"efghi"))[1], [2, 2])
        self.assertEqual(nested(house_after(begin, insert(1, 4, b"efgh")).trees[2]), b"abcdefgh")
        self.assertEqual(nested(house_after(begin, insert(1, 4, b"efghi")).trees[2]), (b"abcd", b"efghi"))

    def test_200_bytes_and_a_byte_of_255_are_let(self):
        told = ask(insert(0, 0, [255] * 200), part(1, 0, 200))
        self.assertEqual(told, [[1, 49], [200] + [255] * 200])


class InsertRefusals(unittest.TestCase):
    def test_no_such_version(self):
        self.assertEqual(ask(insert(1, 0, b"a"), insert(TOP, 0, b"")), [[-2], [-2]])

    def test_place_beyond(self):
        told = ask(insert(0, 1, b""), insert(0, 0, b"abc"), insert(1, 4, b"d"), insert(1, TOP, b"d"), insert(1, 3, b"d"))
        self.assertEqual(told, [[-1], [1, 1], [-1], [-1], [2, 1]])

    def test_too_many_bytes(self):
        self.assertEqual(ask(insert(0, 0, [1] * 201), insert(0, 0, [1] * 220)), [[-1], [-1]])

    def test_a_byte_too_high(self):
        for content in ([256], [TOP], [255, 256], [256, 0], [1] * 199 + [256]):
            self.assertEqual(ask(insert(0, 0, content)), [[-1]], content)

    def test_60_versions(self):
        calls = [insert(0, 0, b"a")] * 59
        told = ask(*calls, insert(0, 0, b"a"), insert(59, 1, b""), part(59, 0, 1), part(60, 0, 0))
        self.assertEqual(told[57:], [[58, 1], [59, 1], [-5], [-5], [1, 97], [-2]])

    def test_2_to_40_bytes_and_one_more(self):
        calls = doubled([])
        end = len(calls)
        told = ask(*calls, insert(end, 0, b"x"), insert(end, MOST, b""), delete(end, 5, 6), insert(end + 2, 5, b"xy"),
                   insert(end + 2, 5, b"x"), insert(end + 3, MOST, b"x"), part(end + 3, 0, 8))
        self.assertEqual(told[end], [-6])
        self.assertEqual(told[end + 1], [end + 1, 0])
        self.assertEqual(told[end + 2][0], end + 2)
        self.assertEqual(told[end + 3], [-6])
        self.assertEqual(told[end + 4][0], end + 3)
        self.assertEqual(told[end + 5], [-6])
        self.assertEqual(told[end + 6], [8] + list(b"ab\ncdxf\n"))

    def test_of_several_the_one_told_first(self):
        calls = doubled([])
        end = len(calls)
        full = calls + [insert(0, 0, b"")] * (59 - end)
        told = ask(*full, insert(60, TOP, [256] * 201), insert(60, 0, b"x"), insert(end, MOST + 1, b"x"),
                   insert(end, 0, [256]), insert(end, 0, [1] * 201), insert(end, 0, b"x"))
        self.assertEqual(told[59:], [[-2], [-2], [-1], [-1], [-1], [-5]])
        told = ask(*calls, insert(60, TOP, [256]), insert(end, MOST + 1, b"x"), insert(end, 0, [256]))
        self.assertEqual(told[end:], [[-2], [-1], [-1]])

    def test_a_refusal_changes_nothing(self):
        refused = [insert(2, 0, b"x"), insert(1, 4, b"x"), insert(1, 0, [1] * 201), insert(1, 0, [256])]
        told = ask(insert(0, 0, b"a\nc"), *refused, part(1, 0, 3), line(1, 1), copy(1, 0, 3, 1, 3), insert(1, 3, b"x"))
        self.assertEqual(told[5:], [[3] + list(b"a\nc"), [2, 1], [2, 1], [3, 1]])
