"""Promise 3: copy."""

import unittest

from tests.plain import MOST, TOP, ask, copy, delete, doubled, house_after, insert, nested, part


class CopyAnswers(unittest.TestCase):
    def test_bytes_are_copied_into_another_version(self):
        told = ask(insert(0, 0, b"hello world"), insert(0, 0, b"<>"), copy(1, 6, 11, 2, 1), copy(1, 0, 5, 2, 0),
                   copy(1, 0, 11, 2, 2), part(1, 0, 11), part(2, 0, 2), part(3, 0, 7), part(4, 0, 7), part(5, 0, 13))
        self.assertEqual([answer[0] for answer in told[2:5]], [3, 4, 5])
        self.assertEqual([bytes(answer[1:]) for answer in told[5:]],
                         [b"hello world", b"<>", b"<world>", b"hello<>", b"<>hello world"])

    def test_bytes_are_copied_into_the_same_version(self):
        told = ask(insert(0, 0, b"abcdef"), copy(1, 1, 5, 1, 3), part(2, 0, 10), part(1, 0, 6))
        self.assertEqual([bytes(answer[1:]) for answer in told[2:]], [b"abcbcdedef", b"abcdef"])

    def test_into_no_bytes_it_is_the_tree_itself(self):
        calls = insert(0, 0, b"x" * 100), copy(1, 0, 100, 0, 0)
        self.assertEqual(ask(*calls)[1], [2, 0])
        house = house_after(*calls)
        self.assertEqual(house.trees[1].number, house.trees[2].number)

    def test_nothing_is_copied(self):
        begin = insert(0, 0, b"abcdefgh")
        told = ask(begin, copy(1, 3, 3, 1, 0), copy(1, 0, 0, 1, 8), copy(0, 0, 0, 0, 0), copy(0, 0, 0, 1, 4),
                   copy(1, 8, 8, 0, 0), part(5, 0, 8))
        self.assertEqual(told[1:], [[2, 0], [3, 0], [4, 0], [5, 1], [6, 0], [8] + list(b"abcdefgh")])

    def test_a_tree_that_has_a_node_twice(self):
        calls = insert(0, 0, b"abcdefgh"), copy(1, 0, 8, 1, 8), copy(2, 0, 16, 2, 16), insert(3, 18, b"-"), delete(3, 1, 7)
        self.assertEqual(ask(*calls)[1:3], [[2, 1], [3, 1]])
        house = house_after(*calls)
        self.assertEqual(house.trees[2].first.number, house.trees[2].second.number)
        self.assertEqual(house.trees[3].first.number, house.trees[3].second.number)
        told = ask(*calls, part(2, 0, 16), part(3, 0, 32), part(4, 0, 33), part(5, 0, 26))
        eight = b"abcdefgh"
        self.assertEqual([bytes(answer[1:]) for answer in told[5:]],
                         [eight * 2, eight * 4, eight * 2 + b"ab-cdefgh" + eight, b"ah" + eight * 3])

    def test_leaves_of_8_and_9_bytes_together(self):
        begin = insert(0, 0, b"abcdefgh")
        self.assertEqual(nested(house_after(begin, copy(1, 0, 4, 0, 0), copy(1, 4, 8, 2, 4)).trees[3]), b"abcdefgh")
        self.assertEqual(nested(house_after(begin, copy(1, 0, 4, 0, 0), copy(1, 3, 8, 2, 4)).trees[3]), (b"abcd", b"defgh"))
        self.assertEqual(ask(begin, copy(1, 0, 4, 0, 0), copy(1, 4, 8, 2, 4), copy(1, 3, 8, 2, 4))[1:],
                         [[2, 1], [3, 1], [4, 2]])


class CopyRefusals(unittest.TestCase):
    def test_no_such_version(self):
        self.assertEqual(ask(copy(1, 0, 0, 0, 0), copy(0, 0, 0, 1, 0), copy(TOP, 0, 0, TOP, 0)), [[-2]] * 3)

    def test_range_and_place(self):
        told = ask(insert(0, 0, b"abc"), insert(0, 0, b"defgh"), copy(1, 2, 1, 2, 0), copy(1, 0, 4, 2, 0), copy(1, 4, 4, 2, 0),
                   copy(1, 0, 3, 2, 6), copy(2, 0, 5, 1, 4), copy(0, 0, 1, 1, 0), copy(1, 0, 1, 0, 1),
                   copy(1, 0, 3, 2, 5), copy(2, 0, 5, 1, 3))
        self.assertEqual(told[2:9], [[-1]] * 7)
        self.assertEqual(told[9:], [[3, 1], [4, 1]])

    def test_60_versions(self):
        told = ask(*[insert(0, 0, b"a")] * 58, copy(1, 0, 1, 0, 0), copy(1, 0, 1, 0, 0), copy(1, 0, 0, 1, 0), part(1, 0, 1), part(60, 0, 0))
        self.assertEqual(told[58:], [[59, 0], [-5], [-5], [1, 97], [-2]])

    def test_2_to_40_bytes_and_one_more(self):
        calls = doubled([])
        end = len(calls)
        half = MOST // 2
        told = ask(*calls, copy(end, 0, 1, end, 0), copy(1, 0, 1, end, 7), copy(end, 5, 5, end, 0),
                   copy(end, 0, half + 1, end - 1, half), copy(end, 0, half, end - 1, half), copy(end, 0, MOST, 0, 0),
                   copy(end, 0, MOST, 1, 8), copy(end, 0, MOST - 8, 1, 8), copy(end, 0, MOST - 7, 1, 8))
        self.assertEqual(told[end:end + 4], [[-6], [-6], [end + 1, 0], [-6]])
        self.assertEqual([answer[0] for answer in told[end + 4:]], [end + 2, end + 3, -6, end + 4, -6])

    def test_of_several_the_one_told_first(self):
        calls = doubled([])
        end = len(calls)
        full = calls + [insert(0, 0, b"")] * (59 - end)
        told = ask(*full, copy(60, 2, 1, end, TOP), copy(end, 0, 1, 60, 0), copy(end, 2, 1, end, 0), copy(end, 0, MOST + 1, end, 0),
                   copy(end, 0, 1, end, MOST + 1), copy(end, 0, 1, end, 0))
        self.assertEqual(told[59:], [[-2], [-2], [-1], [-1], [-1], [-5]])
        told = ask(*calls, copy(60, 2, 1, end, TOP), copy(end, 2, 1, 60, 0), copy(end, 0, MOST + 1, end, 0), copy(end, 0, 9, end, TOP))
        self.assertEqual(told[end:], [[-2], [-2], [-1], [-1]])

    def test_a_refusal_changes_nothing(self):
        refused = [copy(2, 0, 0, 1, 0), copy(1, 0, 0, 2, 0), copy(1, 2, 1, 1, 0), copy(1, 0, 4, 1, 0), copy(1, 0, 1, 1, 4)]
        told = ask(insert(0, 0, b"abc"), *refused, part(1, 0, 3), copy(1, 0, 3, 1, 3))
        self.assertEqual(told[6:], [[3] + list(b"abc"), [2, 1]])
