"""How trees are joined, sewn, parted and made. A tree is the node at its top, or None without bytes.

All goes down by loops that remember what they passed, and comes up again along that.
"""

MOST_IN_LEAF = 8


def with_behind(maker, x, t):
    """The node x with the tree t behind it."""
    if t.height <= x.height + 1:
        return maker.over(x, t)
    p = t.first
    q = t.second
    if p.height <= q.height:
        return maker.over(maker.over(x, p), q)
    return maker.over(maker.over(x, p.first), maker.over(p.second, q))


def with_ahead(maker, x, t):
    """The node x with the tree t ahead of it."""
    if t.height <= x.height + 1:
        return maker.over(t, x)
    p = t.first
    q = t.second
    if q.height <= p.height:
        return maker.over(p, maker.over(q, x))
    return maker.over(maker.over(p, q.first), maker.over(q.second, x))


def joined(maker, a, b):
    """The trees a and b as one, balanced."""
    if a is None:
        return b
    if b is None:
        return a
    passed = []
    while abs(a.height - b.height) > 1:
        if a.height > b.height:
            passed.append((a.first, True))
            a = a.second
        else:
            passed.append((b.second, False))
            b = b.first
    t = maker.over(a, b)
    for x, goes_behind in reversed(passed):
        if goes_behind:
            t = with_behind(maker, x, t)
        else:
            t = with_ahead(maker, x, t)
    return t


def first_leaf(tree):
    node = tree
    while node.height > 0:
        node = node.first
    return node


def last_leaf(tree):
    node = tree
    while node.height > 0:
        node = node.second
    return node


def without_first_leaf(maker, tree):
    passed = []
    node = tree
    while node.height > 0:
        passed.append(node.second)
        node = node.first
    rest = None
    for second in reversed(passed):
        rest = joined(maker, rest, second)
    return rest


def without_last_leaf(maker, tree):
    passed = []
    node = tree
    while node.height > 0:
        passed.append(node.first)
        node = node.second
    rest = None
    for first in reversed(passed):
        rest = joined(maker, first, rest)
    return rest


def sewn(maker, a, b):
    """The trees a and b joined, with the two leaves at the seam made one if that one can hold both."""
    if a is None:
        return b
    if b is None:
        return a
    seam = last_leaf(a).content + first_leaf(b).content
    if len(seam) > MOST_IN_LEAF:
        return joined(maker, a, b)
    front = joined(maker, without_last_leaf(maker, a), maker.leaf(seam))
    return joined(maker, front, without_first_leaf(maker, b))


def parted(maker, tree, place):
    """Two trees in a tuple: what is ahead of the place, what is behind it."""
    if tree is None or place == 0:
        return (None, tree)
    passed = []
    node = tree
    # Going down, the place is never at 0 again: it goes to the second one only if it is beyond the first.
    while place < node.size and node.height > 0:
        in_first = place <= node.first.size
        passed.append((node, in_first))
        if in_first:
            node = node.first
        else:
            place -= node.first.size
            node = node.second
    left = node
    right = None
    if place < node.size:
        left = maker.leaf(node.content[:place])
        right = maker.leaf(node.content[place:])
    for above, in_first in reversed(passed):
        if in_first:
            right = sewn(maker, right, above.second)
        else:
            left = sewn(maker, above.first, left)
    return (left, right)


def made_of_bytes(maker, content):
    """A tree of the bytes in the list content."""
    tree = None
    for start in range(0, len(content), MOST_IN_LEAF):
        tree = joined(maker, tree, maker.leaf(tuple(content[start:start + MOST_IN_LEAF])))
    return tree


def put_in(maker, tree, place, middle):
    """The tree with the tree middle put in at the place."""
    sides = parted(maker, tree, place)
    return sewn(maker, sewn(maker, sides[0], middle), sides[1])


def taken_out(maker, tree, begin, end):
    """The tree without its bytes from begin up to end."""
    sides = parted(maker, tree, begin)
    rest = parted(maker, sides[1], end - begin)[1]
    return sewn(maker, sides[0], rest)


def cut(maker, tree, begin, end):
    """A tree of the bytes from begin up to end alone."""
    front = parted(maker, tree, end)[0]
    return parted(maker, front, begin)[1]
