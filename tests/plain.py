"""What the tests share: how calls are written, how answers are read, and a plain reckoning.

The plain reckoning keeps each version twice: as bytes copied whole (as long as they are short),
and as a tree for which the document's words are followed one by one, by recursion. What is read
of a text is read from the whole bytes; of a text too long for that, from trees that are parted.
"""

from piecehouse.house import House
from piecehouse.versions import answers, call_answer, call_length

MOST = 2 ** 40
TOP = 2 ** 41 - 1
LONGEST_WHOLE = 4096
NAMES = ("insert", "delete", "copy", "part", "line", "where", "longest", "shape", "alike", "everything")


def insert(version, place, content):
    content = list(content)
    return [0, version, place, len(content)] + content


def delete(version, begin, end):
    return [1, version, begin, end]


def copy(version, begin, end, into, place):
    return [2, version, begin, end, into, place]


def part(version, begin, end):
    return [3, version, begin, end]


def line(version, number):
    return [4, version, number]


def where(version, place):
    return [5, version, place]


def longest(version):
    return [6, version]


def shape(version):
    return [7, version]


def alike(version, place, other, spot):
    return [8, version, place, other, spot]


def everything():
    """The call all."""
    return [9]


def flat(calls):
    return [number for call in calls for number in call]


def split(told):
    """The answers of each call, out of what the program gives back."""
    found = []
    at = 0
    while at < len(told):
        found.append(told[at + 1:at + 1 + told[at]])
        at += 1 + told[at]
    assert at == len(told)
    return found


def ask(*calls):
    """The answers of these calls on one new house, call by call."""
    return split(answers(flat(calls)))


def house_after(*calls):
    """A house on which these calls were made, for a look at its trees."""
    house = House()
    for call in calls:
        assert call_length(call, 0) == len(call)
        call_answer(house, call)
    return house


def nested(tree):
    """A tree as nested tuples, each leaf as bytes; None is no tree."""
    if tree is None:
        return None
    if tree.height == 0:
        return bytes(tree.content)
    return (nested(tree.first), nested(tree.second))


def doubled(calls):
    """Calls that make versions 1 to 38: 8 bytes, then each version twice behind one another, up to 2^40 bytes."""
    calls.append(insert(0, 0, b"ab\ncdef\n"))
    for version in range(1, 38):
        size = 8 * 2 ** (version - 1)
        calls.append(copy(version, 0, size, version, size))
    return calls


class PlainNode:
    def __init__(self, made, content=None, first=None, second=None):
        self.content = content
        self.first = first
        self.second = second
        self.leaf = content is not None
        self.height = 0 if self.leaf else 1 + max(first.height, second.height)
        self.size = len(content) if self.leaf else first.size + second.size
        self.feeds = content.count(b"\n") if self.leaf else first.feeds + second.feeds
        self.leaves = 1 if self.leaf else first.leaves + second.leaves
        self.lines = None
        made.append(self)


class PlainTrees:
    """The part "Trees" of the document, word by word; made lists all nodes that it makes."""

    def __init__(self):
        self.made = []

    def leaf(self, content):
        return PlainNode(self.made, content=content)

    def over(self, first, second):
        return PlainNode(self.made, first=first, second=second)

    def joined(self, a, b):
        if a is None or b is None:
            return b if a is None else a
        if -1 <= a.height - b.height <= 1:
            return self.over(a, b)
        if a.height > b.height:
            t = self.joined(a.second, b)
            return self.behind(a.first, t)
        t = self.joined(a, b.first)
        return self.ahead(b.second, t)

    def behind(self, x, t):
        if t.height - x.height <= 1:
            return self.over(x, t)
        p, q = t.first, t.second
        if not p.height > q.height:
            return self.over(self.over(x, p), q)
        y, z = p.first, p.second
        return self.over(self.over(x, y), self.over(z, q))

    def ahead(self, x, t):
        if t.height - x.height <= 1:
            return self.over(t, x)
        p, q = t.first, t.second
        if not q.height > p.height:
            return self.over(p, self.over(q, x))
        y, z = q.first, q.second
        return self.over(self.over(p, y), self.over(z, x))

    def last(self, tree):
        return tree if tree.leaf else self.last(tree.second)

    def first(self, tree):
        return tree if tree.leaf else self.first(tree.first)

    def without_last(self, tree):
        return None if tree.leaf else self.joined(tree.first, self.without_last(tree.second))

    def without_first(self, tree):
        return None if tree.leaf else self.joined(self.without_first(tree.first), tree.second)

    def sewn(self, a, b):
        if a is None or b is None:
            return b if a is None else a
        both = self.last(a).content + self.first(b).content
        if len(both) > 8:
            return self.joined(a, b)
        return self.joined(self.joined(self.without_last(a), self.leaf(both)), self.without_first(b))

    def parted(self, tree, p):
        if tree is None:
            return None, None
        if p == 0:
            return None, tree
        if p >= tree.size:
            return tree, None
        if tree.leaf:
            return self.leaf(tree.content[:p]), self.leaf(tree.content[p:])
        x, y = tree.first, tree.second
        if not p > x.size:
            l, r = self.parted(x, p)
            return l, self.sewn(r, y)
        l, r = self.parted(y, p - x.size)
        return self.sewn(x, l), r

    def made_of(self, content):
        tree = None
        for start in range(0, len(content), 8):
            tree = self.joined(tree, self.leaf(content[start:start + 8]))
        return tree


def different(tree, found):
    """All different nodes of a tree, by Python's own identity, put into the dict found."""
    if tree is not None and id(tree) not in found:
        found[id(tree)] = tree
        if not tree.leaf:
            different(tree.first, found)
            different(tree.second, found)
    return found


def flat_text(tree):
    if tree is None:
        return b""
    return tree.content if tree.leaf else flat_text(tree.first) + flat_text(tree.second)


def lines_below(node):
    """The head, the lengths of the lines between head and tail with their first numbers, and the tail.

    Without a line feed, head and tail are the one line there is.
    """
    if node.lines is None:
        if node.leaf:
            sizes = [len(one) for one in node.content.split(b"\n")]
            inner = {size: number for number, size in reversed(list(enumerate(sizes))) if 0 < number < len(sizes) - 1}
            node.lines = (sizes[0], inner, sizes[-1])
        else:
            node.lines = lines_together(node.first, node.second)
    return node.lines


def lines_together(first, second):
    head, inner, tail = lines_below(first)
    other_head, other_inner, other_tail = lines_below(second)
    inner = dict(inner)
    seam = tail + other_head
    if first.feeds and second.feeds:
        inner.setdefault(seam, first.feeds)
    for size, number in other_inner.items():
        inner[size] = min(inner.get(size, MOST), first.feeds + number)
    return head if first.feeds else seam, inner, other_tail if second.feeds else seam


def longest_below(node):
    head, inner, tail = lines_below(node)
    lines = [(-head, 0), (-tail, node.feeds)] + [(-size, number) for size, number in inner.items()]
    size, number = min(lines)
    return [number, -size]


class PlainHouse:
    """Answers calls as the document tells; whole[v] is None where a text is too long to be copied whole."""

    def __init__(self):
        self.trees = [None]
        self.whole = [b""]

    def size(self, version):
        return 0 if self.trees[version] is None else self.trees[version].size

    def answer(self, call):
        name = NAMES[call[0]]
        given = call[1:3] + [call[4:]] if name == "insert" else call[1:]
        return getattr(self, name)(*given)

    def kept(self, work, tree, whole):
        self.trees.append(tree)
        if self.size(len(self.trees) - 1) > LONGEST_WHOLE:
            whole = None
        elif whole is None:
            # A short one of long ones.
            whole = flat_text(tree)
        self.whole.append(whole)
        made = {id(node) for node in work.made}
        return [len(self.trees) - 1, len(made & set(different(tree, {})))]

    def put(self, work, into, place, middle):
        first, second = work.parted(self.trees[into], place)
        return work.sewn(work.sewn(first, middle), second)

    def refusal(self, *checks):
        for number, fails in checks:
            if fails():
                return [number]
        return None

    def insert(self, version, place, content):
        refused = self.refusal(
            (-2, lambda: version >= len(self.trees)),
            (-1, lambda: place > self.size(version) or len(content) > 200 or any(b > 255 for b in content)),
            (-5, lambda: len(self.trees) == 60),
            (-6, lambda: self.size(version) + len(content) > MOST))
        if refused:
            return refused
        work = PlainTrees()
        middle = work.made_of(bytes(content))
        tree = self.put(work, version, place, middle)
        old = self.whole[version]
        return self.kept(work, tree, None if old is None else old[:place] + bytes(content) + old[place:])

    def delete(self, version, begin, end):
        refused = self.refusal(
            (-2, lambda: version >= len(self.trees)),
            (-1, lambda: end < begin or end > self.size(version)),
            (-5, lambda: len(self.trees) == 60))
        if refused:
            return refused
        work = PlainTrees()
        first, second = work.parted(self.trees[version], begin)
        gone, left = work.parted(second, end - begin)
        old = self.whole[version]
        return self.kept(work, work.sewn(first, left), None if old is None else old[:begin] + old[end:])

    def copy(self, version, begin, end, into, place):
        refused = self.refusal(
            (-2, lambda: version >= len(self.trees) or into >= len(self.trees)),
            (-1, lambda: end < begin or end > self.size(version) or place > self.size(into)),
            (-5, lambda: len(self.trees) == 60),
            (-6, lambda: self.size(into) + end - begin > MOST))
        if refused:
            return refused
        work = PlainTrees()
        front, behind = work.parted(self.trees[version], end)
        ahead, middle = work.parted(front, begin)
        tree = self.put(work, into, place, middle)
        source, old = self.whole[version], self.whole[into]
        known = source is not None and old is not None
        return self.kept(work, tree, old[:place] + source[begin:end] + old[place:] if known else None)

    def part(self, version, begin, end):
        refused = self.refusal(
            (-2, lambda: version >= len(self.trees)),
            (-1, lambda: end < begin or end > self.size(version) or end - begin > 200))
        return refused or [end - begin] + list(self.text(version, begin, end))

    def text(self, version, begin, end):
        """The bytes from begin up to end, or up to the text's end if that is ahead of it."""
        if self.whole[version] is not None:
            return self.whole[version][begin:end]
        work = PlainTrees()
        return flat_text(work.parted(work.parted(self.trees[version], end)[0], begin)[1])

    def feeds_ahead(self, version, place):
        if self.whole[version] is not None:
            return self.whole[version][:place].count(b"\n")
        ahead = PlainTrees().parted(self.trees[version], place)[0]
        return 0 if ahead is None else ahead.feeds

    def first_place(self, version, feeds):
        """The first place that has so many line feeds ahead of it; the text's end and 1 if there is none."""
        low, high = 0, self.size(version) + 1
        while low < high:
            middle = (low + high) // 2
            if self.feeds_ahead(version, middle) >= feeds:
                high = middle
            else:
                low = middle + 1
        return low

    def feeds(self, version):
        return self.feeds_ahead(version, self.size(version))

    def line(self, version, number):
        refused = self.refusal(
            (-2, lambda: version >= len(self.trees)),
            (-1, lambda: number > self.feeds(version)))
        if refused:
            return refused
        if self.whole[version] is None:
            begin = self.first_place(version, number)
            end = self.size(version) if number == self.feeds(version) else self.first_place(version, number + 1) - 1
            return [begin, end - begin]
        lines = self.whole[version].split(b"\n")
        return [sum(len(one) + 1 for one in lines[:number]), len(lines[number])]

    def where(self, version, place):
        refused = self.refusal(
            (-2, lambda: version >= len(self.trees)),
            (-1, lambda: place > self.size(version)))
        if refused:
            return refused
        number = self.feeds_ahead(version, place)
        if self.whole[version] is None:
            return [number, place - self.first_place(version, number)]
        return [number, len(self.whole[version][:place].split(b"\n")[-1])]

    def longest(self, version):
        if version >= len(self.trees):
            return [-2]
        if self.whole[version] is None:
            return longest_below(self.trees[version])
        sizes = [len(one) for one in self.whole[version].split(b"\n")]
        return [sizes.index(max(sizes)), max(sizes)]

    def shape(self, version):
        if version >= len(self.trees):
            return [-2]
        tree = self.trees[version]
        if tree is None:
            return [0, 0, 0, 0, 0]
        return [self.size(version), self.feeds(version), tree.height, tree.leaves, len(different(tree, {}))]

    def alike(self, version, place, other, spot):
        refused = self.refusal(
            (-2, lambda: version >= len(self.trees) or other >= len(self.trees)),
            (-1, lambda: place > self.size(version) or spot > self.size(other)))
        if refused:
            return refused
        pairs = zip(self.text(version, place, place + 200), self.text(other, spot, spot + 200))
        unlike = [k for k, (one, two) in enumerate(pairs) if one != two]
        longest_possible = min(200, self.size(version) - place, self.size(other) - spot)
        return [min(unlike, default=longest_possible)]

    def everything(self):
        found = {}
        for tree in self.trees:
            different(tree, found)
        return [len(self.trees), len(found)]
