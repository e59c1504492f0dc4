"""What is read of a text: its size, its lines, some of its bytes. Nothing is made here."""

from piecehouse.nodes import LINE_FEED


def size_of(tree):
    return 0 if tree is None else tree.size


def feeds_of(tree):
    return 0 if tree is None else tree.feeds


def height_of(tree):
    return 0 if tree is None else tree.height


def leaves_of(tree):
    return 0 if tree is None else tree.leaves


def longest_of(tree):
    """The number of the longest line and how many bytes it has."""
    return (0, 0) if tree is None else tree.longest


def bytes_between(tree, begin, end):
    """The bytes from begin up to end, as a list."""
    found = []
    start = 0
    waiting = [tree]
    # No end is beyond the tree's bytes: short of it something always waits, and no tree at all is never looked into.
    while start < end:
        node = waiting.pop()
        if start + node.size <= begin:
            # All of it is ahead of what is asked, so it is passed over unread.
            start += node.size
        elif node.height > 0:
            waiting.append(node.second)
            waiting.append(node.first)
        else:
            found.extend(node.content[max(begin - start, 0):end - start])
            start += node.size
    return found


def place_behind_feed(tree, count):
    """The place right behind the line feed that is the count-th one; count is 1 or more, and there are as many."""
    place = 0
    node = tree
    while node.height > 0:
        if count <= node.first.feeds:
            node = node.first
        else:
            count -= node.first.feeds
            place += node.first.size
            node = node.second
    index = 0
    while count > 0:
        if node.content[index] == LINE_FEED:
            count -= 1
        index += 1
    return place + index


def line_begin(tree, line):
    if line == 0:
        return 0
    return place_behind_feed(tree, line)


def line_end(tree, line):
    """The place of the line feed behind the line, or the text's end."""
    if line == feeds_of(tree):
        return size_of(tree)
    return place_behind_feed(tree, line + 1) - 1


def feeds_ahead(tree, place):
    """How many line feeds are ahead of the place."""
    if tree is None:
        return 0
    passed = 0
    node = tree
    while node.height > 0:
        if place <= node.first.size:
            node = node.first
        else:
            place -= node.first.size
            passed += node.first.feeds
            node = node.second
    return passed + node.content[:place].count(LINE_FEED)


def count_alike(some, others):
    """How many numbers of the two lists, which are equally long, are the same up to the first that is not."""
    count = 0
    while count < len(some) and some[count] == others[count]:
        count += 1
    return count
