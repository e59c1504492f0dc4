"""A house of versions and the calls on it; each call answers a list of numbers, a refusal alone."""

from piecehouse.nodes import Maker, count_nodes
from piecehouse.texts import bytes_between, count_alike, feeds_ahead, feeds_of, height_of
from piecehouse.texts import leaves_of, line_begin, line_end, longest_of, size_of
from piecehouse.trees import cut, made_of_bytes, put_in, taken_out

UNFIT = -1
NO_VERSION = -2
NO_ROOM = -5
TOO_LONG = -6

MOST_VERSIONS = 60
MOST_BYTES = 1099511627776
MOST_AT_ONCE = 200
HIGHEST_BYTE = 255


class House:
    """The trees of all versions, by their numbers, and the maker of all their nodes."""

    def __init__(self):
        self.maker = Maker()
        self.trees = [None]

    def has(self, version):
        return version < len(self.trees)

    def is_full(self):
        return len(self.trees) >= MOST_VERSIONS

    def keep(self, tree, earlier):
        """Keeps the tree as a new version, made by a call ahead of which earlier nodes had been made."""
        self.trees.append(tree)
        return [len(self.trees) - 1, count_nodes([tree], earlier)]


def is_range(tree, begin, end):
    return begin <= end and end <= size_of(tree)


def insert_answer(house, version, place, content):
    if not house.has(version):
        return [NO_VERSION]
    tree = house.trees[version]
    if place > size_of(tree) or len(content) > MOST_AT_ONCE or max(content, default=0) > HIGHEST_BYTE:
        return [UNFIT]
    if house.is_full():
        return [NO_ROOM]
    if size_of(tree) + len(content) > MOST_BYTES:
        return [TOO_LONG]
    earlier = house.maker.made
    middle = made_of_bytes(house.maker, content)
    return house.keep(put_in(house.maker, tree, place, middle), earlier)


def delete_answer(house, version, begin, end):
    if not house.has(version):
        return [NO_VERSION]
    tree = house.trees[version]
    if not is_range(tree, begin, end):
        return [UNFIT]
    if house.is_full():
        return [NO_ROOM]
    earlier = house.maker.made
    return house.keep(taken_out(house.maker, tree, begin, end), earlier)


def copy_answer(house, version, begin, end, into, place):
    if not house.has(version) or not house.has(into):
        return [NO_VERSION]
    source = house.trees[version]
    target = house.trees[into]
    if not is_range(source, begin, end) or place > size_of(target):
        return [UNFIT]
    if house.is_full():
        return [NO_ROOM]
    if size_of(target) + end - begin > MOST_BYTES:
        return [TOO_LONG]
    earlier = house.maker.made
    middle = cut(house.maker, source, begin, end)
    return house.keep(put_in(house.maker, target, place, middle), earlier)


def part_answer(house, version, begin, end):
    if not house.has(version):
        return [NO_VERSION]
    tree = house.trees[version]
    if not is_range(tree, begin, end) or end - begin > MOST_AT_ONCE:
        return [UNFIT]
    return [end - begin] + bytes_between(tree, begin, end)


def line_answer(house, version, line):
    if not house.has(version):
        return [NO_VERSION]
    tree = house.trees[version]
    if line > feeds_of(tree):
        return [UNFIT]
    begin = line_begin(tree, line)
    return [begin, line_end(tree, line) - begin]


def where_answer(house, version, place):
    if not house.has(version):
        return [NO_VERSION]
    tree = house.trees[version]
    if place > size_of(tree):
        return [UNFIT]
    line = feeds_ahead(tree, place)
    return [line, place - line_begin(tree, line)]


def longest_answer(house, version):
    if not house.has(version):
        return [NO_VERSION]
    return list(longest_of(house.trees[version]))


def shape_answer(house, version):
    if not house.has(version):
        return [NO_VERSION]
    tree = house.trees[version]
    return [size_of(tree), feeds_of(tree), height_of(tree), leaves_of(tree), count_nodes([tree])]


def alike_answer(house, version, place, other, spot):
    if not house.has(version) or not house.has(other):
        return [NO_VERSION]
    tree = house.trees[version]
    against = house.trees[other]
    if place > size_of(tree) or spot > size_of(against):
        return [UNFIT]
    most = min(MOST_AT_ONCE, size_of(tree) - place, size_of(against) - spot)
    some = bytes_between(tree, place, place + most)
    return [count_alike(some, bytes_between(against, spot, spot + most))]


def all_answer(house):
    return [len(house.trees), count_nodes(house.trees)]
