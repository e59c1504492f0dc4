"""Promise 5, the call alike."""

import unittest

from tests.plain import MOST, TOP, alike, ask, copy, delete, doubled, everything, insert, part


def same(one, place, two, spot):
    """How many bytes are the same from the places on, up to 200."""
    count = 0
    while count < 200 and place + count < len(one) and spot + count < len(two) and one[place + count] == two[spot + count]:
        count += 1
    return [count]


class AlikeAnswers(unittest.TestCase):
    def test_two_versions(self):
        told = ask(insert(0, 0, b"abcdef"), insert(0, 0, b"abcxef"), alike(1, 0, 2, 0), alike(1, 3, 2, 3), alike(1, 4, 2, 4), alike(2, 1, 1, 1),
                   alike(1, 0, 2, 1), alike(1, 6, 2, 6), alike(1, 5, 2, 5))
        self.assertEqual(told[2:], [[3], [0], [2], [2], [0], [0], [1]])

    def test_what_is_the_same_behind_a_difference_does_not_count(self):
        told = ask(insert(0, 0, b"aXaaaaaaaaaaaaaaaaaa"), insert(0, 0, b"aYaaaaaaaaaaaaaaaaaa"), alike(1, 0, 2, 0), alike(1, 2, 2, 2))
        self.assertEqual(told[2:], [[1], [18]])

    def test_every_pair_of_places(self):
        one = b"abcabcabdabcabcabcabcabd"
        two = b"cabcabcabdab"
        pairs = [(place, spot) for place in range(len(one) + 1) for spot in range(len(two) + 1)]
        for start in range(0, len(pairs), 78):
            some = pairs[start:start + 78]
            told = ask(insert(0, 0, one), insert(0, 0, two), *[alike(1, place, 2, spot) for place, spot in some])
            self.assertEqual(told[2:], [same(one, place, two, spot) for place, spot in some])

    def test_the_same_version(self):
        text = b"ab" * 90
        for place, spot in ((0, 0), (0, 2), (2, 0), (0, 1), (7, 7), (180, 180), (180, 0), (0, 180), (178, 0), (179, 1)):
            self.assertEqual(ask(insert(0, 0, text), alike(1, place, 1, spot))[1], same(text, place, text, spot), (place, spot))

    def test_no_bytes(self):
        told = ask(alike(0, 0, 0, 0), insert(0, 0, b"abc"), alike(0, 0, 1, 0), alike(1, 3, 0, 0), alike(1, 0, 0, 0), alike(1, 3, 1, 3))
        self.assertEqual([told[0]] + told[2:], [[0]] * 5)

    def test_the_limit_of_200(self):
        text = bytes(k % 251 for k in range(200))
        calls = [insert(0, 0, text), insert(1, 200, b"!?"), insert(1, 200, b"!."), delete(1, 199, 200), insert(4, 199, b"*")]
        told = ask(*calls, alike(1, 0, 1, 0), alike(1, 0, 2, 0), alike(2, 0, 3, 0), alike(2, 1, 3, 1), alike(2, 2, 3, 2), alike(2, 0, 2, 0),
                   alike(2, 1, 2, 1), alike(2, 2, 2, 2), alike(2, 3, 2, 3), alike(1, 0, 4, 0), alike(4, 0, 1, 0), alike(1, 0, 5, 0))
        self.assertEqual(told[5:], [[200], [200], [200], [200], [199], [200], [200], [200], [199], [199], [199], [199]])

    def test_texts_of_201_to_400_bytes(self):
        calls = [insert(0, 0, b"x" * 200), insert(1, 0, b"x"), insert(2, 50, b"x" * 199), insert(3, 201, b"-")]
        told = ask(*calls, alike(3, 0, 3, 0), alike(3, 0, 2, 0), alike(3, 199, 3, 0), alike(3, 200, 3, 0), alike(3, 201, 3, 0), alike(3, 399, 3, 0),
                   alike(3, 400, 3, 0), alike(4, 0, 3, 0), alike(4, 1, 3, 0), alike(4, 2, 3, 0), alike(4, 202, 3, 0), alike(4, 201, 4, 201))
        self.assertEqual(told[4:], [[200], [200], [200], [200], [199], [1], [0], [200], [200], [199], [199], [200]])

    def test_leaves_that_end_at_other_places(self):
        text = bytes(range(40, 90))
        for place in range(51):
            told = ask(insert(0, 0, text[:place]), insert(1, place, text[place:]), insert(0, 0, text), alike(2, 0, 3, 0), alike(3, 9, 2, 9))
            self.assertEqual(told[3:], [[50], [41]])

    def test_all_bytes(self):
        calls = [insert(0, 0, bytes([byte])) for byte in (0, 255, 10, 0)]
        self.assertEqual(ask(*calls, alike(1, 0, 4, 0), alike(1, 0, 2, 0), alike(1, 0, 3, 0))[4:], [[1], [0], [0]])

    def test_of_texts_of_2_to_40_bytes(self):
        calls = doubled([])
        end = len(calls)
        half = MOST // 2
        calls += [delete(end, half, half + 1), insert(end - 1, half, b"ab\nc")]
        told = ask(*calls, alike(end, 0, end, MOST - 200), alike(end, 0, end, MOST - 199), alike(end, 5, end, MOST - 3), alike(end, 8, end, MOST),
                   alike(end, half - 150, end + 1, half - 150), alike(end, half + 1, end + 1, half), alike(end, 0, end + 2, half - 8),
                   alike(end, 0, end + 2, half - 80), alike(end, 1, end, half + 2))
        self.assertEqual(told[end + 2:], [[200], [0], [3], [0], [150], [200], [12], [84], [0]])


class AlikeRefusals(unittest.TestCase):
    def test_no_such_version(self):
        told = ask(alike(1, 0, 0, 0), alike(0, 0, 1, 0), alike(1, 0, 1, 0), alike(TOP, 0, TOP, 0))
        self.assertEqual(told, [[-2]] * 4)

    def test_beyond_the_bytes(self):
        told = ask(insert(0, 0, b"abc"), insert(0, 0, b"abcde"), alike(1, 4, 2, 0), alike(2, 0, 1, 4), alike(1, 3, 2, 6), alike(1, 4, 2, 6),
                   alike(1, TOP, 2, 0), alike(1, 0, 2, TOP), alike(0, 1, 1, 0), alike(1, 0, 0, 1), alike(1, 3, 2, 5), alike(2, 5, 1, 3), alike(2, 4, 1, 3))
        self.assertEqual(told[2:], [[-1]] * 8 + [[0]] * 3)

    def test_of_several_the_one_told_first(self):
        told = ask(insert(0, 0, b"abc"), alike(1, 4, 2, 0), alike(2, 0, 1, 4), alike(2, TOP, 2, TOP), alike(1, 4, 0, 1))
        self.assertEqual(told[1:], [[-2], [-2], [-2], [-1]])

    def test_60_versions_are_no_hindrance(self):
        told = ask(*[insert(0, 0, b"ab")] * 59, alike(59, 0, 1, 0), alike(60, 0, 1, 0), alike(1, 0, 60, 0))
        self.assertEqual(told[59:], [[2], [-2], [-2]])

    def test_nothing_is_changed(self):
        told = ask(insert(0, 0, b"abab"), everything(), alike(1, 0, 1, 2), alike(1, 5, 1, 0), alike(2, 0, 1, 0), everything(), alike(1, 0, 1, 2),
                   part(1, 0, 4), copy(1, 0, 2, 0, 0))
        self.assertEqual(told[5:], [told[1], [2], [4] + list(b"abab"), [2, 1]])
