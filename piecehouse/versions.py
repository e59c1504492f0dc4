"""The program's interface: a list of calls goes in, a list of answers comes out."""

from piecehouse.house import House, copy_answer, delete_answer, insert_answer, line_answer, part_answer
from piecehouse.house import alike_answer, all_answer, longest_answer, shape_answer, where_answer

INSERT = 0
DELETE = 1
COPY = 2
PART = 3
LINE = 4
WHERE = 5
LONGEST = 6
SHAPE = 7
ALIKE = 8

# How many numbers each call has, by its number; insert has its bytes besides.
CALL_LENGTHS = (4, 4, 6, 4, 3, 3, 2, 2, 5, 1)
# Where in an insert it stands how many bytes it has.
BYTE_COUNT = 3


def call_length(calls, start):
    """How many numbers the call has that begins at start."""
    length = CALL_LENGTHS[calls[start]]
    if calls[start] == INSERT:
        return length + calls[start + BYTE_COUNT]
    return length


def call_answer(house, call):
    number = call[0]
    if number == INSERT:
        return insert_answer(house, call[1], call[2], call[BYTE_COUNT + 1:])
    if number == DELETE:
        return delete_answer(house, call[1], call[2], call[3])
    if number == COPY:
        return copy_answer(house, call[1], call[2], call[3], call[4], call[5])
    if number == PART:
        return part_answer(house, call[1], call[2], call[3])
    if number == LINE:
        return line_answer(house, call[1], call[2])
    if number == WHERE:
        return where_answer(house, call[1], call[2])
    if number == LONGEST:
        return longest_answer(house, call[1])
    if number == SHAPE:
        return shape_answer(house, call[1])
    if number == ALIKE:
        return alike_answer(house, call[1], call[2], call[3], call[4])
    return all_answer(house)


def answers(calls):
    """For each call in the list calls, in order: how many numbers it answers, then these."""
    house = House()
    told = []
    start = 0
    while start < len(calls):
        length = call_length(calls, start)
        answer = call_answer(house, calls[start:start + length])
        told.append(len(answer))
        told.extend(answer)
        start += length
    return told
