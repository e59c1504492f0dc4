"""Promise 2: delete."""

import unittest

from tests.plain import MOST, TOP, ask, delete, doubled, house_after, insert, nested, part

EIGHTS = b"aaaaaaaabbbbbbbbccccccccdddddddd"


class DeleteAnswers(unittest.TestCase):
    def test_bytes_are_taken_out(self):
        told = ask(insert(0, 0, b"hello world"), delete(1, 2, 9), delete(1, 0, 6), delete(1, 5, 11),
                   part(1, 0, 11), part(2, 0, 4), part(3, 0, 5), part(4, 0, 5))
        self.assertEqual([answer[0] for answer in told[:4]], [1, 2, 3, 4])
        self.assertEqual([bytes(answer[1:]) for answer in told[4:]], [b"hello world", b"held", b"world", b"hello"])

    def test_all_is_taken_out(self):
        told = ask(insert(0, 0, EIGHTS), delete(1, 0, 32), part(2, 0, 0), part(2, 0, 1), insert(2, 0, b"x"))
        self.assertEqual(told[1:], [[2, 0], [0], [-1], [3, 1]])

    def test_nothing_is_taken_out(self):
        told = ask(delete(0, 0, 0), insert(0, 0, EIGHTS), delete(2, 0, 0), delete(2, 32, 32), part(3, 0, 32))
        self.assertEqual(told, [[1, 0], [2, 7], [3, 0], [4, 0], [32] + list(EIGHTS)])
        # Between two leaves: parted into the old halves, which are joined by a new node.
        self.assertEqual(ask(insert(0, 0, EIGHTS), delete(1, 16, 16))[1], [2, 1])
        # Within a leaf: the leaf is made again, and the nodes over it.
        self.assertEqual(ask(insert(0, 0, EIGHTS), delete(1, 4, 4), part(2, 0, 32))[1:], [[2, 3], [32] + list(EIGHTS)])

    def test_old_nodes_are_shared(self):
        calls = insert(0, 0, EIGHTS), delete(1, 0, 16), delete(1, 16, 32), delete(1, 8, 24)
        self.assertEqual(ask(*calls)[1:], [[2, 0], [3, 0], [4, 1]])
        house = house_after(*calls)
        self.assertEqual(house.trees[2].number, house.trees[1].second.number)
        self.assertEqual(house.trees[3].number, house.trees[1].first.number)
        self.assertEqual(nested(house.trees[4]), (b"aaaaaaaa", b"dddddddd"))

    def test_leaves_of_8_and_9_bytes_together(self):
        begin = insert(0, 0, EIGHTS[:16])
        self.assertEqual(nested(house_after(begin, delete(1, 4, 12)).trees[2]), b"aaaabbbb")
        self.assertEqual(nested(house_after(begin, delete(1, 5, 12)).trees[2]), (b"aaaaa", b"bbbb"))
        self.assertEqual(ask(begin, delete(1, 4, 12), delete(1, 5, 12))[1:], [[2, 1], [3, 3]])


class DeleteRefusals(unittest.TestCase):
    def test_no_such_version(self):
        self.assertEqual(ask(delete(1, 0, 0), delete(TOP, 0, 0)), [[-2], [-2]])

    def test_range(self):
        told = ask(insert(0, 0, b"abc"), delete(1, 2, 1), delete(1, 0, 4), delete(1, 4, 4), delete(1, TOP, TOP),
                   delete(1, 4, 3), delete(0, 0, 1), delete(1, 0, 3))
        self.assertEqual(told[1:], [[-1]] * 6 + [[2, 0]])

    def test_60_versions(self):
        told = ask(*[insert(0, 0, b"a")] * 58, delete(1, 0, 1), delete(1, 0, 1), delete(1, 0, 0), part(1, 0, 1), part(60, 0, 0))
        self.assertEqual(told[58:], [[59, 0], [-5], [-5], [1, 97], [-2]])

    def test_of_several_the_one_told_first(self):
        full = [insert(0, 0, b"ab")] * 59
        told = ask(*full, delete(60, 2, 1), delete(60, 0, 0), delete(1, 2, 1), delete(1, 0, 3), delete(1, 0, 1))
        self.assertEqual(told[59:], [[-2], [-2], [-1], [-1], [-5]])
        self.assertEqual(ask(delete(1, 2, 1)), [[-2]])

    def test_a_refusal_changes_nothing(self):
        told = ask(insert(0, 0, b"abc"), delete(2, 0, 0), delete(1, 2, 1), delete(1, 0, 4), part(1, 0, 3), delete(1, 1, 2))
        self.assertEqual(told[4:], [[3] + list(b"abc"), [2, 1]])

    def test_of_a_text_of_2_to_40_bytes(self):
        calls = doubled([])
        end = len(calls)
        told = ask(*calls, delete(end, 1, MOST), delete(end, 0, MOST), delete(end, 0, MOST + 1), part(end + 1, 0, 1))
        self.assertEqual(told[end:], [[end + 1, 1], [end + 2, 0], [-1], [1, 97]])
