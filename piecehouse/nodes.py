"""The nodes that trees consist of. A node is made once and never changed."""

LINE_FEED = 10


class Leaf:
    """A node with 1 to 8 bytes, which are a tuple of whole numbers.

    Like every node it keeps how many bytes, line feeds and leaves it has, how many bytes are in its
    first line (head) and its last one (tail), and the number and bytes of its longest line.
    """

    def __init__(self, number, content):
        lines = line_sizes(content)
        self.number = number
        self.content = content
        self.height = 0
        self.size = len(content)
        self.leaves = 1
        self.feeds = len(lines) - 1
        self.head = lines[0]
        self.tail = lines[-1]
        self.longest = (lines.index(max(lines)), max(lines))


class Fork:
    """A node over two others, which keeps of all below it what a leaf keeps of its bytes."""

    def __init__(self, number, first, second):
        self.number = number
        self.first = first
        self.second = second
        self.height = 1 + max(first.height, second.height)
        self.size = first.size + second.size
        self.leaves = first.leaves + second.leaves
        self.feeds = first.feeds + second.feeds
        self.head = first.head if first.feeds > 0 else first.size + second.head
        self.tail = second.tail if second.feeds > 0 else first.tail + second.size
        self.longest = longest_over(first, second)


class Maker:
    """Makes the nodes of one house.

    Two nodes with the same bytes are still different ones, so each gets a number of its own;
    the numbers rise, which tells the nodes of one call from all that were there before it.
    """

    def __init__(self):
        self.made = 0

    def leaf(self, content):
        self.made += 1
        return Leaf(self.made, content)

    def over(self, first, second):
        self.made += 1
        return Fork(self.made, first, second)


def line_sizes(content):
    """How many bytes each line of the content has."""
    sizes = [0]
    for byte in content:
        if byte == LINE_FEED:
            sizes.append(0)
        else:
            sizes[-1] += 1
    return sizes


def longest_over(first, second):
    """The number and the bytes of the longest line, the first of several, of two nodes one behind the other."""
    # The last line of the first node and the first line of the second one are one line here. It is never
    # shorter than either of them, so where one of them was the longest, it takes that one's place.
    seam = first.tail + second.head
    longest = first.longest
    if seam > longest[1]:
        longest = (first.feeds, seam)
    if second.longest[1] > longest[1]:
        longest = (first.feeds + second.longest[0], second.longest[1])
    return longest


def count_nodes(trees, earlier=0):
    """How many different nodes of all the trees have a number above earlier."""
    seen = {}
    waiting = list(trees)
    while len(waiting) > 0:
        node = waiting.pop()
        # What is below a node was made ahead of it: below an old node there is no new one,
        # so a huge old tree is never walked.
        if node is None or node.number <= earlier or node.number in seen:
            continue
        seen[node.number] = True
        if node.height > 0:
            waiting.append(node.first)
            waiting.append(node.second)
    return len(seen)
