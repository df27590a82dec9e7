"""The calls on one tree, handed in as one list of whole numbers, and what they answer.

Each call is a function of the tree and of what the call was given; it gives back the numbers that are answered.
"""

from leaning.orders import EITHER, LEFT, RIGHT, first_too_soon, leans_by, least_far, least_order
from leaning.rows import rows_of_tree
from leaning.tree import Tree

NO_SUCH_PART = -2
TRUNK_ALONE = -6
NOT_BEGUN = -11
NOT_AS_TOLD = -22
TOO_MANY = -28

MOST_PARTS = 9
LEAN_SHIFT = 200
GREATEST_LEAN = 400
CHANGE_SHIFT = 50
GREATEST_CHANGE = 100
SIDES = 3


def begin(tree, given):
    if given[0] > GREATEST_LEAN:
        return [NOT_AS_TOLD]
    tree.begin_anew(given[0] - LEAN_SHIFT)
    return [0]


def bough(tree, given):
    if given[0] >= tree.part_count():
        return [NO_SUCH_PART]
    if given[1] > GREATEST_CHANGE:
        return [NOT_AS_TOLD]
    if tree.part_count() == MOST_PARTS:
        return [TOO_MANY]
    tree.hang(given[0], given[1] - CHANGE_SHIFT)
    return [tree.part_count() - 1]


def change(tree, given):
    part = given[0]
    if part == 0 or part >= tree.part_count():
        return [NO_SUCH_PART]
    if given[1] > GREATEST_CHANGE:
        return [NOT_AS_TOLD]
    was = tree.changes[part]
    tree.changes[part] = given[1] - CHANGE_SHIFT
    return [0, was]


def less(tree, given):
    if tree.part_count() == 1:
        return [TRUNK_ALONE]
    tree.drop_last()
    return [tree.part_count()]


def lean(tree, given):
    if given[0] > GREATEST_LEAN:
        return [NOT_AS_TOLD]
    was = tree.first_lean
    tree.first_lean = given[0] - LEAN_SHIFT
    return [0, was]


def try_order(tree, given):
    if sorted(given) != tree.loose_parts():
        return [NOT_AS_TOLD]
    too_soon = first_too_soon(tree, given)
    if too_soon > 0:
        return [1, too_soon]
    leans = leans_by(tree, given)
    return [0, max(leans), min(leans)]


def right(tree, given):
    return [0, least_far(tree, RIGHT)]


def left(tree, given):
    # Farther to the left is told by a lesser lean.
    return [0, -least_far(tree, LEFT)]


def both(tree, given):
    return [0, least_far(tree, EITHER)]


def order(tree, given):
    if given[0] >= SIDES:
        return [NOT_AS_TOLD]
    parts = least_order(tree, given[0])
    return [len(parts)] + parts


def told(tree, given):
    parts = []
    for row in rows_of_tree(tree):
        parts.extend(row)
    return [0, max(leans_by(tree, parts))] + parts


# By the calls' numbers: what answers each, and how many plain numbers it is given.
CALLS = (begin, bough, change, less, lean, try_order, right, left, both, order, told)
PLAIN_NUMBERS = (1, 2, 2, 0, 1, 0, 0, 0, 0, 1, 0)
BEGIN_CALL = 0
CALLS_WITH_ROW = (5,)


def answer_call(tree, number, given):
    if number != BEGIN_CALL and not tree.begun:
        return [NOT_BEGUN]
    return CALLS[number](tree, given)


def answers(calls):
    """For each call how many numbers it answers, then these."""
    tree = Tree()
    answered = []
    place = 0
    while place < len(calls):
        number = calls[place]
        start = place + 1
        size = PLAIN_NUMBERS[number]
        if number in CALLS_WITH_ROW:
            size = calls[start]
            start += 1
        numbers = answer_call(tree, number, calls[start:start + size])
        answered.append(len(numbers))
        answered.extend(numbers)
        place = start + size
    return answered
