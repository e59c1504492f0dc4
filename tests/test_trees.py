"""Trees: joined, with t behind and ahead, sewn, parted; against trees worked out by hand from the document."""

import unittest

from piecehouse.nodes import Maker, count_nodes
from piecehouse.trees import joined, parted, sewn, with_ahead, with_behind, without_first_leaf, without_last_leaf
from tests.plain import nested


def grown(maker, form):
    """A tree of a nested form: bytes are a leaf, a pair is a node over two, a node stays itself."""
    if isinstance(form, bytes):
        return maker.leaf(tuple(form))
    if isinstance(form, tuple):
        return maker.over(grown(maker, form[0]), grown(maker, form[1]))
    return form


A, B, C, D, E, F, G, H = [bytes([letter]) * 8 for letter in b"abcdefgh"]


class Turning(unittest.TestCase):
    def check(self, work, x, t, expected, made):
        maker = Maker()
        first = grown(maker, x)
        second = grown(maker, t)
        earlier = maker.made
        tree = work(maker, first, second)
        self.assertEqual(nested(tree), expected)
        self.assertEqual(count_nodes([tree], earlier), made)

    def test_behind_at_most_1_higher(self):
        self.check(with_behind, A, B, (A, B), 1)
        self.check(with_behind, A, (B, C), (A, (B, C)), 1)
        self.check(with_behind, (A, B), C, ((A, B), C), 1)

    def test_behind_2_higher_with_its_first_not_higher(self):
        self.check(with_behind, A, (B, (C, D)), ((A, B), (C, D)), 2)
        self.check(with_behind, A, ((B, C), (D, E)), ((A, (B, C)), (D, E)), 2)

    def test_behind_2_higher_with_its_first_higher(self):
        self.check(with_behind, A, ((B, C), D), ((A, B), (C, D)), 3)
        self.check(with_behind, (A, B), ((C, (D, E)), (F, G)), (((A, B), C), ((D, E), (F, G))), 3)
        self.check(with_behind, (A, B), (((C, D), E), (F, G)), (((A, B), (C, D)), (E, (F, G))), 3)

    def test_ahead_at_most_1_higher(self):
        self.check(with_ahead, B, A, (A, B), 1)
        self.check(with_ahead, C, (A, B), ((A, B), C), 1)
        self.check(with_ahead, (B, C), A, (A, (B, C)), 1)

    def test_ahead_2_higher_with_its_second_not_higher(self):
        self.check(with_ahead, D, ((A, B), C), ((A, B), (C, D)), 2)
        self.check(with_ahead, E, ((A, B), (C, D)), ((A, B), ((C, D), E)), 2)

    def test_ahead_2_higher_with_its_second_higher(self):
        self.check(with_ahead, D, (A, (B, C)), ((A, B), (C, D)), 3)
        self.check(with_ahead, (F, G), ((A, B), (C, (D, E))), (((A, B), C), ((D, E), (F, G))), 3)
        self.check(with_ahead, (F, G), ((A, B), ((C, D), E)), (((A, B), (C, D)), (E, (F, G))), 3)

    def test_joined_with_none(self):
        maker = Maker()
        tree = grown(maker, (A, B))
        self.assertEqual(joined(maker, tree, None).number, tree.number)
        self.assertEqual(joined(maker, None, tree).number, tree.number)
        self.assertIsNone(joined(maker, None, None))
        self.assertEqual(maker.made, 3)

    def test_joined_at_most_1_apart(self):
        self.check(joined, A, B, (A, B), 1)
        self.check(joined, (A, B), C, ((A, B), C), 1)
        self.check(joined, A, (B, C), (A, (B, C)), 1)
        self.check(joined, (A, B), (C, D), ((A, B), (C, D)), 1)
        self.check(joined, ((A, B), (C, D)), (E, F), (((A, B), (C, D)), (E, F)), 1)
        self.check(joined, (A, B), ((C, D), (E, F)), ((A, B), ((C, D), (E, F))), 1)

    def test_joined_2_apart(self):
        self.check(joined, ((A, B), C), D, ((A, B), (C, D)), 2)
        self.check(joined, (A, (B, C)), D, ((A, B), (C, D)), 3)
        self.check(joined, ((A, B), (C, D)), E, ((A, B), ((C, D), E)), 2)
        self.check(joined, A, (B, (C, D)), ((A, B), (C, D)), 2)
        self.check(joined, A, ((B, C), D), ((A, B), (C, D)), 3)
        self.check(joined, A, ((B, C), (D, E)), ((A, (B, C)), (D, E)), 2)

    def test_joined_3_apart(self):
        self.check(joined, (((A, B), C), (D, E)), F, (((A, B), C), ((D, E), F)), 2)
        self.check(joined, ((A, B), ((C, D), (E, F))), G, (((A, B), (C, D)), ((E, F), G)), 3)
        self.check(joined, A, ((B, C), ((D, E), F)), ((A, (B, C)), ((D, E), F)), 2)
        self.check(joined, A, (((B, C), (D, E)), (F, G)), ((A, (B, C)), ((D, E), (F, G))), 3)


class Seams(unittest.TestCase):
    def sew(self, a, b):
        maker = Maker()
        first = grown(maker, a)
        second = grown(maker, b)
        earlier = maker.made
        tree = sewn(maker, first, second)
        return nested(tree), count_nodes([tree], earlier)

    def test_with_none(self):
        maker = Maker()
        tree = grown(maker, (b"ab", b"cdefghij"))
        self.assertEqual(sewn(maker, tree, None).number, tree.number)
        self.assertEqual(sewn(maker, None, tree).number, tree.number)
        self.assertIsNone(sewn(maker, None, None))

    def test_two_leaves(self):
        self.assertEqual(self.sew(b"abcd", b"efgh"), (b"abcdefgh", 1))
        self.assertEqual(self.sew(b"abcd", b"efghi"), ((b"abcd", b"efghi"), 1))

    def test_leaves_within_trees(self):
        self.assertEqual(self.sew((A, b"abc"), (b"defgh", B)), (((A, b"abcdefgh"), B), 3))
        self.assertEqual(self.sew((A, b"abc"), (b"defghi", B)), (((A, b"abc"), (b"defghi", B)), 1))
        self.assertEqual(self.sew((A, b"abc"), b"d"), ((A, b"abcd"), 2))
        self.assertEqual(self.sew(b"d", (b"abc", A)), ((b"dabc", A), 2))

    def test_the_leaf_is_joined_to_the_first_tree_ahead_of_the_second(self):
        self.assertEqual(self.sew(b"a", ((b"b", A), B)), ((b"ab", (A, B)), 3))
        self.assertEqual(self.sew((A, (B, b"a")), (b"b", C)), (((A, B), (b"ab", C)), 4))

    def test_only_the_two_leaves_at_the_seam_are_made_one(self):
        self.assertEqual(self.sew((b"a", b"b"), (b"c", b"d")), (((b"a", b"bc"), b"d"), 3))
        maker = Maker()
        small = grown(maker, ((b"a", b"b"), (b"c", b"d")))
        self.assertEqual(nested(without_first_leaf(maker, small)), (b"b", (b"c", b"d")))
        self.assertEqual(nested(without_last_leaf(maker, small)), ((b"a", b"b"), b"c"))

    def test_without_a_leaf(self):
        maker = Maker()
        leaf = grown(maker, A)
        self.assertIsNone(without_first_leaf(maker, leaf))
        self.assertIsNone(without_last_leaf(maker, leaf))
        self.assertEqual(nested(without_first_leaf(maker, grown(maker, ((A, B), (C, D))))), (B, (C, D)))
        self.assertEqual(nested(without_last_leaf(maker, grown(maker, ((A, B), (C, D))))), ((A, B), C))
        # The height falls by 2 against the other side, so it's turned.
        self.assertEqual(nested(without_first_leaf(maker, grown(maker, ((A, B), ((C, D), E))))), ((B, C), (D, E)))
        self.assertEqual(nested(without_last_leaf(maker, grown(maker, ((A, (B, C)), (D, E))))), ((A, B), (C, D)))


class Parting(unittest.TestCase):
    def part(self, form, place):
        maker = Maker()
        tree = grown(maker, form)
        earlier = maker.made
        sides = parted(maker, tree, place)
        return [(nested(side), count_nodes([side], earlier)) for side in sides]

    def test_none(self):
        self.assertEqual(parted(Maker(), None, 0), (None, None))
        self.assertEqual(parted(Maker(), None, 3), (None, None))

    def test_at_the_ends_and_beyond(self):
        for form in (A, b"a", (A, B), ((A, B), C)):
            size = parted_size(form)
            self.assertEqual(self.part(form, 0), [(None, 0), (form, 0)])
            self.assertEqual(self.part(form, size), [(form, 0), (None, 0)])
            self.assertEqual(self.part(form, size + 1), [(form, 0), (None, 0)])

    def test_a_leaf(self):
        self.assertEqual(self.part(b"abc", 1), [(b"a", 1), (b"bc", 1)])

    def test_between_leaves_nothing_is_made(self):
        self.assertEqual(self.part((A, B), 8), [(A, 0), (B, 0)])
        self.assertEqual(self.part(((A, B), (C, D)), 16), [((A, B), 0), ((C, D), 0)])

    def test_deeper(self):
        self.assertEqual(self.part(((A, B), (C, D)), 8), [(A, 0), ((B, (C, D)), 1)])
        self.assertEqual(self.part(((A, B), (C, D)), 24), [(((A, B), C), 1), (D, 0)])
        self.assertEqual(self.part((A, B), 3), [(b"aaa", 1), ((b"aaaaa", B), 2)])
        self.assertEqual(self.part((A, B), 13), [((A, b"bbbbb"), 2), (b"bbb", 1)])

    def test_what_is_parted_is_sewn_to_its_neighbours(self):
        self.assertEqual(self.part((A, b"bcd"), 3), [(b"aaa", 1), (b"aaaaabcd", 1)])
        self.assertEqual(self.part((b"abc", B), 8), [(b"abcbbbbb", 1), (b"bbb", 1)])


def parted_size(form):
    return len(form) if isinstance(form, bytes) else parted_size(form[0]) + parted_size(form[1])


class Counting(unittest.TestCase):
    def test_a_node_that_is_there_twice_counts_once(self):
        maker = Maker()
        leaf = grown(maker, A)
        twice = maker.over(leaf, leaf)
        four = maker.over(twice, twice)
        self.assertEqual(count_nodes([four], 0), 3)
        self.assertEqual(count_nodes([four], leaf.number), 2)
        self.assertEqual(count_nodes([four], maker.made), 0)
        self.assertEqual(count_nodes([None], 0), 0)

    def test_nodes_that_are_not_in_the_tree_do_not_count(self):
        maker = Maker()
        kept = grown(maker, (A, B))
        grown(maker, (C, D))
        self.assertEqual(count_nodes([kept], 0), 3)
