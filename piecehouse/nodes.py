"""The nodes that trees consist of. A node is made once and never changed."""

LINE_FEED = 10


class Leaf:
    """A node with 1 to 8 bytes, which are a tuple of whole numbers."""

    def __init__(self, number, content):
        self.number = number
        self.content = content
        self.height = 0
        self.size = len(content)
        self.feeds = content.count(LINE_FEED)


class Fork:
    """A node over two others, which keeps how many bytes and line feeds are below it."""

    def __init__(self, number, first, second):
        self.number = number
        self.first = first
        self.second = second
        self.height = 1 + max(first.height, second.height)
        self.size = first.size + second.size
        self.feeds = first.feeds + second.feeds


class Maker:
    """Makes the nodes of one house.

    Two nodes with the same bytes are still different ones, so each gets a number of its own;
    the numbers rise, which tells the nodes of one call from all that were there before it.
    """

    def __init__(self):
        self.made = 0

    def leaf(self, content):
        self.made += 1
        return Leaf(self.made, content)

    def over(self, first, second):
        self.made += 1
        return Fork(self.made, first, second)


def count_made_since(tree, earlier):
    """How many different nodes of the tree have a number above earlier."""
    seen = {}
    waiting = [tree]
    while len(waiting) > 0:
        node = waiting.pop()
        # What is below a node was made ahead of it: below an old node there is no new one,
        # so a huge old tree is never walked.
        if node is None or node.number <= earlier or node.number in seen:
            continue
        seen[node.number] = True
        if node.height > 0:
            waiting.append(node.first)
            waiting.append(node.second)
    return len(seen)
