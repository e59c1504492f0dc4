"""What the tests share: how calls are written, how answers are read, and a plain reckoning.

The plain reckoning keeps each version twice: as bytes copied whole (as long as they are short),
and as a tree for which the document's words are followed one by one, by recursion.
"""

from piecehouse.house import House
from piecehouse.versions import answers, call_answer, call_length

MOST = 2 ** 40
TOP = 2 ** 41 - 1
LONGEST_WHOLE = 4096


def insert(version, place, content):
    content = list(content)
    return [0, version, place, len(content)] + content


def delete(version, begin, end):
    return [1, version, begin, end]


def copy(version, begin, end, into, place):
    return [2, version, begin, end, into, place]


def part(version, begin, end):
    return [3, version, begin, end]


def line(version, number):
    return [4, version, number]


def flat(calls):
    return [number for call in calls for number in call]


def split(told):
    """The answers of each call, out of what the program gives back."""
    found = []
    at = 0
    while at < len(told):
        found.append(told[at + 1:at + 1 + told[at]])
        at += 1 + told[at]
    assert at == len(told)
    return found


def ask(*calls):
    """The answers of these calls on one new house, call by call."""
    return split(answers(flat(calls)))


def house_after(*calls):
    """A house on which these calls were made, for a look at its trees."""
    house = House()
    for call in calls:
        assert call_length(call, 0) == len(call)
        call_answer(house, call)
    return house


def shape(tree):
    """A tree as nested tuples, each leaf as bytes; None is no tree."""
    if tree is None:
        return None
    if tree.height == 0:
        return bytes(tree.content)
    return (shape(tree.first), shape(tree.second))


def doubled(calls):
    """Calls that make versions 1 to 38: 8 bytes, then each version twice behind one another, up to 2^40 bytes."""
    calls.append(insert(0, 0, b"ab\ncdef\n"))
    for version in range(1, 38):
        size = 8 * 2 ** (version - 1)
        calls.append(copy(version, 0, size, version, size))
    return calls


class PlainNode:
    def __init__(self, made, content=None, first=None, second=None):
        self.content = content
        self.first = first
        self.second = second
        self.leaf = content is not None
        self.height = 0 if self.leaf else 1 + max(first.height, second.height)
        self.size = len(content) if self.leaf else first.size + second.size
        made.append(self)


class PlainTrees:
    """The part "Trees" of the document, word by word; made lists all nodes that it makes."""

    def __init__(self):
        self.made = []

    def leaf(self, content):
        return PlainNode(self.made, content=content)

    def over(self, first, second):
        return PlainNode(self.made, first=first, second=second)

    def joined(self, a, b):
        if a is None or b is None:
            return b if a is None else a
        if -1 <= a.height - b.height <= 1:
            return self.over(a, b)
        if a.height > b.height:
            t = self.joined(a.second, b)
            return self.behind(a.first, t)
        t = self.joined(a, b.first)
        return self.ahead(b.second, t)

    def behind(self, x, t):
        if t.height - x.height <= 1:
            return self.over(x, t)
        p, q = t.first, t.second
        if not p.height > q.height:
            return self.over(self.over(x, p), q)
        y, z = p.first, p.second
        return self.over(self.over(x, y), self.over(z, q))

    def ahead(self, x, t):
        if t.height - x.height <= 1:
            return self.over(t, x)
        p, q = t.first, t.second
        if not q.height > p.height:
            return self.over(p, self.over(q, x))
        y, z = q.first, q.second
        return self.over(self.over(p, y), self.over(z, x))

    def last(self, tree):
        return tree if tree.leaf else self.last(tree.second)

    def first(self, tree):
        return tree if tree.leaf else self.first(tree.first)

    def without_last(self, tree):
        return None if tree.leaf else self.joined(tree.first, self.without_last(tree.second))

    def without_first(self, tree):
        return None if tree.leaf else self.joined(self.without_first(tree.first), tree.second)

    def sewn(self, a, b):
        if a is None or b is None:
            return b if a is None else a
        both = self.last(a).content + self.first(b).content
        if len(both) > 8:
            return self.joined(a, b)
        return self.joined(self.joined(self.without_last(a), self.leaf(both)), self.without_first(b))

    def parted(self, tree, p):
        if tree is None:
            return None, None
        if p == 0:
            return None, tree
        if p >= tree.size:
            return tree, None
        if tree.leaf:
            return self.leaf(tree.content[:p]), self.leaf(tree.content[p:])
        x, y = tree.first, tree.second
        if not p > x.size:
            l, r = self.parted(x, p)
            return l, self.sewn(r, y)
        l, r = self.parted(y, p - x.size)
        return self.sewn(x, l), r

    def made_of(self, content):
        tree = None
        for start in range(0, len(content), 8):
            tree = self.joined(tree, self.leaf(content[start:start + 8]))
        return tree


def different(tree, found):
    """All different nodes of a tree, by Python's own identity, put into the dict found."""
    if tree is not None and id(tree) not in found:
        found[id(tree)] = tree
        if not tree.leaf:
            different(tree.first, found)
            different(tree.second, found)
    return found


class PlainHouse:
    """Answers calls as the document tells; whole[v] is None where a text is too long to be copied whole."""

    def __init__(self):
        self.trees = [None]
        self.whole = [b""]

    def size(self, version):
        return 0 if self.trees[version] is None else self.trees[version].size

    def answer(self, call):
        name = ("insert", "delete", "copy", "part", "line")[call[0]]
        given = call[1:3] + [call[4:]] if name == "insert" else call[1:]
        return getattr(self, name)(*given)

    def kept(self, work, tree, whole):
        self.trees.append(tree)
        self.whole.append(whole if whole is not None and len(whole) <= LONGEST_WHOLE else None)
        made = {id(node) for node in work.made}
        return [len(self.trees) - 1, len(made & set(different(tree, {})))]

    def put(self, work, into, place, middle):
        first, second = work.parted(self.trees[into], place)
        return work.sewn(work.sewn(first, middle), second)

    def refusal(self, *checks):
        for number, fails in checks:
            if fails():
                return [number]
        return None

    def insert(self, version, place, content):
        refused = self.refusal(
            (-2, lambda: version >= len(self.trees)),
            (-1, lambda: place > self.size(version) or len(content) > 200 or any(b > 255 for b in content)),
            (-5, lambda: len(self.trees) == 60),
            (-6, lambda: self.size(version) + len(content) > MOST))
        if refused:
            return refused
        work = PlainTrees()
        middle = work.made_of(bytes(content))
        tree = self.put(work, version, place, middle)
        old = self.whole[version]
        return self.kept(work, tree, None if old is None else old[:place] + bytes(content) + old[place:])

    def delete(self, version, begin, end):
        refused = self.refusal(
            (-2, lambda: version >= len(self.trees)),
            (-1, lambda: end < begin or end > self.size(version)),
            (-5, lambda: len(self.trees) == 60))
        if refused:
            return refused
        work = PlainTrees()
        first, second = work.parted(self.trees[version], begin)
        gone, left = work.parted(second, end - begin)
        old = self.whole[version]
        return self.kept(work, work.sewn(first, left), None if old is None else old[:begin] + old[end:])

    def copy(self, version, begin, end, into, place):
        refused = self.refusal(
            (-2, lambda: version >= len(self.trees) or into >= len(self.trees)),
            (-1, lambda: end < begin or end > self.size(version) or place > self.size(into)),
            (-5, lambda: len(self.trees) == 60),
            (-6, lambda: self.size(into) + end - begin > MOST))
        if refused:
            return refused
        work = PlainTrees()
        front, behind = work.parted(self.trees[version], end)
        ahead, middle = work.parted(front, begin)
        tree = self.put(work, into, place, middle)
        source, old = self.whole[version], self.whole[into]
        known = source is not None and old is not None
        return self.kept(work, tree, old[:place] + source[begin:end] + old[place:] if known else None)

    def part(self, version, begin, end):
        refused = self.refusal(
            (-2, lambda: version >= len(self.trees)),
            (-1, lambda: end < begin or end > self.size(version) or end - begin > 200))
        return refused or [end - begin] + list(self.whole[version][begin:end])

    def line(self, version, number):
        refused = self.refusal(
            (-2, lambda: version >= len(self.trees)),
            (-1, lambda: number >= len(self.whole[version].split(b"\n"))))
        if refused:
            return refused
        lines = self.whole[version].split(b"\n")
        return [sum(len(one) + 1 for one in lines[:number]), len(lines[number])]
