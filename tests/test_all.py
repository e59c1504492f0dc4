"""Promise 5, the call all."""

import unittest

from tests.plain import MOST, TOP, alike, ask, copy, delete, doubled, everything, insert, line, longest, part, shape, where


class AllAnswers(unittest.TestCase):
    def test_at_the_beginning(self):
        self.assertEqual(ask(everything(), everything()), [[1, 0], [1, 0]])

    def test_versions_without_bytes(self):
        self.assertEqual(ask(insert(0, 0, b""), everything(), copy(1, 0, 0, 0, 0), everything())[1::2], [[2, 0], [3, 0]])

    def test_short_texts(self):
        told = ask(insert(0, 0, b"abc"), everything(), insert(0, 0, b"abc"), everything(), insert(1, 1, b"\n"), everything())
        self.assertEqual(told[1::2], [[2, 1], [3, 2], [4, 3]])

    def test_texts_of_several_leaves(self):
        told = ask(insert(0, 0, b"x" * 200), everything(), insert(0, 0, b"\n" * 24), everything())
        self.assertEqual(told[1::2], [[2, 49], [3, 54]])

    def test_each_node_once_in_however_many_trees(self):
        told = ask(insert(0, 0, b"x" * 24), copy(1, 0, 24, 0, 0), copy(1, 0, 16, 0, 0), everything())
        self.assertEqual(told, [[1, 5], [2, 0], [3, 0], [4, 5]])

    def test_a_copy_of_a_version_into_itself_shares_its_nodes(self):
        told = ask(insert(0, 0, b"abcdefgh" * 3), copy(1, 0, 24, 1, 24), everything(), copy(2, 0, 48, 2, 0), everything())
        self.assertEqual(told, [[1, 5], [2, 1], [3, 6], [3, 1], [4, 7]])

    def test_a_delete_that_leaves_nearly_all(self):
        told = ask(insert(0, 0, b"abcdefgh" * 25), delete(1, 199, 200), everything(), delete(1, 0, 0), everything(), delete(1, 0, 200), everything())
        self.assertEqual(told[2], [3, 49 + told[1][1]])
        self.assertLess(told[1][1], 10)
        self.assertEqual(told[4:7:2], [[4, 49 + told[1][1]], [5, 49 + told[1][1]]])

    def test_nodes_in_no_tree_do_not_count(self):
        # Parting and sewing make leaves on the way that are in no version's tree.
        told = ask(insert(0, 0, b"abcdefgh"), insert(1, 4, b"xy"), everything(), delete(2, 1, 9), everything())
        self.assertEqual([told[2], told[4]], [[3, 1 + told[1][1]], [4, 1 + told[1][1] + told[3][1]]])

    def test_it_is_the_sum_of_what_was_made(self):
        calls = [insert(0, 0, b"ab\n" * 60), delete(1, 3, 77), copy(2, 5, 100, 1, 90), insert(3, 111, b"x" * 200), copy(4, 0, 475, 4, 475),
                 delete(5, 400, 500), copy(1, 7, 150, 6, 850)]
        told = ask(*[call for one in calls for call in (one, everything())])
        made = 0
        for number in range(len(calls)):
            made += told[2 * number][1]
            self.assertEqual(told[2 * number:2 * number + 2], [[number + 1, told[2 * number][1]], [number + 2, made]])

    def test_of_a_text_of_2_to_40_bytes(self):
        calls = doubled([])
        end = len(calls)
        told = ask(*calls, everything(), delete(end, 0, 8), everything(), delete(end, MOST // 2, MOST), everything())
        self.assertEqual(told[end:][::2], [[end + 1, 38], [end + 2, 38 + 36], [end + 3, 38 + 36]])

    def test_60_versions(self):
        told = ask(*[insert(0, 0, b"123456789")] * 59, everything(), insert(0, 0, b"a"), everything())
        self.assertEqual(told[59:], [[60, 177], [-5], [60, 177]])


class AllChangesNothing(unittest.TestCase):
    def test_between_other_calls(self):
        calls = [insert(0, 0, b"ab\ncd"), copy(1, 0, 5, 1, 5), part(2, 0, 10), shape(2), where(2, 7), longest(2), alike(1, 0, 2, 5)]
        told = ask(*[call for one in calls for call in (everything(), one, everything())])
        self.assertEqual(told[1::3], ask(*calls))

    def test_reading_and_refusals_change_nothing(self):
        begin = [insert(0, 0, b"ab\ncd" * 30), delete(1, 3, 9)]
        reading = [part(1, 2, 99), line(1, 3), where(2, 50), longest(1), shape(2), alike(1, 0, 2, 0)]
        refused = [insert(3, 0, b"a"), insert(1, 151, b"a"), insert(1, 0, [256]), insert(1, 0, b"a" * 201), delete(1, 2, 1), delete(1, 0, 151),
                   copy(1, 0, 151, 2, 0), copy(1, 0, 1, 2, TOP), part(1, 0, 151), line(1, 31), line(3, 0), where(1, 151), where(3, 0),
                   longest(3), shape(3), alike(3, 0, 0, 0), alike(1, 151, 1, 0)]
        told = ask(*begin, everything(), *[call for one in reading + refused for call in (one, everything())])
        self.assertEqual(told[4::2], [told[2]] * (len(reading) + len(refused)))
        self.assertEqual([answer[0] for answer in told[3 + 2 * len(reading)::2]],
                         [-2, -1, -1, -1, -1, -1, -1, -1, -1, -1, -2, -1, -2, -2, -2, -2, -1])
