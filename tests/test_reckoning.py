"""Many calls, chosen by fixed seeds, against the plain reckoning; and what must hold of every tree."""

import random
import unittest

from tests.plain import LONGEST_WHOLE, MOST, NAMES, PlainHouse
from tests.plain import alike, ask, copy, delete, everything, house_after, insert, line, longest, nested, part, shape, where

CHANGES = ("insert", "delete", "copy")
READINGS = ("part", "line", "where", "longest", "shape", "alike", "everything")
ALL_CALLS = CHANGES + READINGS


def some_bytes(chance, most):
    """Bytes with many line feeds, with few or with none, and of few letters, so that texts are alike now and then."""
    signs = chance.choice((b"\na", b"\nabcdefg" + b"xy" * 9, b"ab", bytes(range(256))))
    return [chance.choice(signs) for k in range(chance.randrange(most + 1))]


def some_place(chance, size):
    """A place of a text: its ends more often than others, at times one beyond."""
    if chance.random() < 0.03:
        return size + 1
    return chance.choice((0, size, chance.randint(0, size), chance.randint(0, size)))


def some_range(chance, size):
    begin = some_place(chance, size)
    if chance.random() < 0.5:
        return begin, min(size, begin + chance.randrange(20))
    end = some_place(chance, size)
    return (begin, end) if chance.random() < 0.05 else (min(begin, end), max(begin, end))


def some_version(chance, count):
    return count if chance.random() < 0.03 else chance.choice((count - 1, chance.randrange(count)))


def some_call(chance, plain, most_bytes, names):
    count = len(plain.trees)
    version = some_version(chance, count)
    size = plain.size(version) if version < count else 9
    begin, end = some_range(chance, size)
    name = chance.choice(names)
    if name == "insert":
        return insert(version, begin, some_bytes(chance, most_bytes))
    if name == "delete":
        return delete(version, begin, end)
    if name == "part":
        return part(version, begin, end)
    if name == "line":
        feeds = plain.feeds(version) if version < count else 9
        return line(version, some_place(chance, feeds))
    if name == "where":
        return where(version, begin)
    if name == "longest":
        return longest(version)
    if name == "shape":
        return shape(version)
    if name == "everything":
        return everything()
    if name == "alike":
        return some_alike(chance, plain, version, begin)
    into = some_version(chance, count)
    return copy(version, begin, end, into, some_place(chance, plain.size(into) if into < count else 9))


def some_alike(chance, plain, version, place):
    count = len(plain.trees)
    other = some_version(chance, count)
    if chance.random() < 0.5:
        return alike(version, place, other, place)
    return alike(version, place, other, some_place(chance, plain.size(other) if other < count else 9))


def plain_nested(tree):
    if tree is None:
        return None
    return tree.content if tree.leaf else (plain_nested(tree.first), plain_nested(tree.second))


class AgainstThePlainReckoning(unittest.TestCase):
    def run_of(self, seed, most_bytes, names):
        chance = random.Random(seed)
        plain = PlainHouse()
        calls = []
        expected = []
        while len(calls) < 80:
            call = some_call(chance, plain, most_bytes, names)
            if plain.size(len(plain.trees) - 1) > LONGEST_WHOLE // 2 and call[0] == 2:
                continue
            calls.append(call)
            expected.append(plain.answer(call))
        return plain, calls, expected

    def test_all_calls(self):
        for seed in range(400):
            plain, calls, expected = self.run_of(seed, (5, 30, 200)[seed % 3], ALL_CALLS)
            self.assertEqual(ask(*calls), expected, (seed, calls))

    def test_more_changes_than_readings(self):
        for seed in range(100):
            plain, calls, expected = self.run_of(seed, (9, 60, 200)[seed % 3], CHANGES * 4 + READINGS)
            self.assertEqual(ask(*calls), expected, (seed, calls))

    def test_the_runs_meet_every_call_and_every_refusal(self):
        met = {}
        for seed in range(100):
            plain, calls, expected = self.run_of(seed, 30, CHANGES * 12 + READINGS)
            for call, answer in zip(calls, expected):
                met.setdefault(NAMES[call[0]], set()).add(min(answer[0], 0))
        self.assertEqual(met["everything"], {0})
        self.assertEqual({name: refusals for name, refusals in met.items() if name in ("longest", "shape")},
                         {"longest": {0, -2}, "shape": {0, -2}})
        for name in ("part", "line", "where", "alike"):
            self.assertEqual(met[name], {0, -1, -2}, name)
        for name in CHANGES:
            self.assertEqual(met[name], {0, -1, -2, -5}, name)

    def test_after_every_change_every_version_is_read(self):
        for seed in range(30):
            plain, calls, expected = self.run_of(seed, 40, CHANGES)
            calls = calls[:50]
            count = len(house_after(*calls).trees)
            for name in ("longest", "shape"):
                for start in range(0, count, 30):
                    some = [{"longest": longest, "shape": shape}[name](version) for version in range(start, min(count, start + 30))]
                    self.assertEqual(ask(*calls, *some)[50:], [plain.answer(call) for call in some], seed)

    def test_trees_are_the_same_node_by_node(self):
        for seed in range(60):
            plain, calls, expected = self.run_of(seed, (3, 40, 200)[seed % 3], CHANGES)
            house = house_after(*calls)
            self.assertEqual([nested(tree) for tree in house.trees], [plain_nested(tree) for tree in plain.trees], seed)

    def test_older_versions_keep_their_bytes(self):
        for seed in range(20):
            plain, calls, expected = self.run_of(seed, 60, CHANGES)
            for count in range(1, len(calls) + 1):
                house = house_after(*calls[:count])
                texts = [flat_bytes(tree) for tree in house.trees]
                self.assertEqual(texts, plain.whole[:len(texts)], (seed, count))

    def test_all_versions_are_read_after_the_last_change(self):
        for seed in range(40):
            plain, calls, expected = self.run_of(seed, 9, CHANGES)
            calls = calls[:40]
            parts = []
            texts = []
            for version in range(len(house_after(*calls).trees)):
                whole = plain.whole[version][:200]
                parts.append(part(version, 0, len(whole)))
                texts.append([len(whole)] + list(whole))
            self.assertEqual(ask(*calls, *parts[-40:])[40:], texts[-40:], seed)


def flat_bytes(tree):
    if tree is None:
        return b""
    return bytes(tree.content) if tree.height == 0 else flat_bytes(tree.first) + flat_bytes(tree.second)


class LongTexts(unittest.TestCase):
    """Texts that grow to 2^40 bytes by copies of copies; the counts of nodes are those of the plain reckoning."""

    def run_of(self, seed, changes=0.8, names=CHANGES):
        chance = random.Random(seed)
        plain = PlainHouse()
        calls = [insert(0, 0, some_bytes(chance, 200) + [10])]
        expected = [plain.answer(calls[0])]
        while len(calls) < 80:
            call = self.growing(chance, plain) if chance.random() < changes else some_call(chance, plain, 200, names)
            if call[0] == 3:
                # Otherwise nearly every part of a long text would be refused.
                call = part(call[1], call[2], min(call[3], call[2] + 150))
            calls.append(call)
            expected.append(plain.answer(call))
        return plain, calls, expected

    def growing(self, chance, plain):
        last = len(plain.trees) - 1
        other = max(0, last - chance.randrange(3))
        size = plain.size(other)
        begin = chance.randint(0, size // 8)
        room = MOST - plain.size(last)
        end = max(begin, min(size - chance.randint(0, size // 8), begin + room))
        return copy(other, begin, end, last, chance.randint(0, plain.size(last)))

    def test_counts(self):
        longest = 0
        for seed in range(25):
            plain, calls, expected = self.run_of(seed)
            self.assertEqual(ask(*calls), expected, seed)
            longest = max(longest, max(plain.size(version) for version in range(len(plain.trees))))
            self.check_trees(house_after(*calls), seed)
        self.assertEqual(longest, MOST)

    def test_all_calls(self):
        longest_text = 0
        for seed in range(100, 130):
            plain, calls, expected = self.run_of(seed, 0.6, READINGS + CHANGES)
            self.assertEqual(ask(*calls), expected, (seed, calls))
            longest_text = max(longest_text, max(plain.size(version) for version in range(len(plain.trees))))
        self.assertGreater(longest_text, MOST // 2)

    def test_a_change_makes_a_few_hundred_nodes_at_most(self):
        for seed in range(25):
            plain, calls, expected = self.run_of(seed)
            made = [answer[1] for answer in expected if len(answer) == 2]
            self.assertLess(max(made), 400, seed)

    def check_trees(self, house, seed):
        """Every node is balanced, every leaf has 1 to 8 bytes, every node keeps what is below it."""
        seen = {}
        waiting = [tree for tree in house.trees if tree is not None]
        while waiting:
            node = waiting.pop()
            if node.number in seen:
                continue
            seen[node.number] = node
            if node.height == 0:
                self.assertTrue(1 <= len(node.content) <= 8, seed)
                self.assertEqual((node.size, node.feeds, node.leaves), (len(node.content), node.content.count(10), 1), seed)
            else:
                first, second = node.first, node.second
                self.assertLessEqual(abs(first.height - second.height), 1, seed)
                self.assertEqual(node.height, 1 + max(first.height, second.height), seed)
                self.assertEqual((node.size, node.feeds, node.leaves),
                                 (first.size + second.size, first.feeds + second.feeds, first.leaves + second.leaves), seed)
                waiting += [first, second]
