"""The calls on one tree, handed in as one list of whole numbers, and what they answer.

Each call is a function of the tree and of what the call was given; it gives back the numbers that are answered.
"""

from leaning.orders import (EITHER, LEFT, RIGHT, count_orders, first_too_soon, leans_by, least_beginning_with,
                            least_far, least_order, next_behind)
from leaning.rows import peak, rows_of_tree, total
from leaning.tree import Tree

NO_SUCH_PART = -2
TRUNK_ALONE = -6
NOT_BEGUN = -11
NOT_AS_TOLD = -22
TOO_MANY = -28
SOMETHING_HANGS_ON_IT = -33

MOST_PARTS = 9
LEAN_SHIFT = 200
GREATEST_LEAN = 400
CHANGE_SHIFT = 50
GREATEST_CHANGE = 100
SIDES = 3


def is_no_bough(tree, part):
    """Whether there is no such part, or it is the trunk."""
    return part == 0 or part >= tree.part_count()


def begin(tree, given):
    if given[0] > GREATEST_LEAN:
        return [NOT_AS_TOLD]
    tree.begin_anew(given[0] - LEAN_SHIFT)
    return [0]


def bough(tree, given):
    if given[0] >= tree.part_count():
        return [NO_SUCH_PART]
    if given[1] > GREATEST_CHANGE:
        return [NOT_AS_TOLD]
    if tree.part_count() == MOST_PARTS:
        return [TOO_MANY]
    tree.hang(given[0], given[1] - CHANGE_SHIFT)
    return [tree.part_count() - 1]


def change(tree, given):
    part = given[0]
    if is_no_bough(tree, part):
        return [NO_SUCH_PART]
    if given[1] > GREATEST_CHANGE:
        return [NOT_AS_TOLD]
    was = tree.changes[part]
    tree.changes[part] = given[1] - CHANGE_SHIFT
    return [0, was]


def less(tree, given):
    if tree.part_count() == 1:
        return [TRUNK_ALONE]
    tree.drop_last()
    return [tree.part_count()]


def lean(tree, given):
    if given[0] > GREATEST_LEAN:
        return [NOT_AS_TOLD]
    was = tree.first_lean
    tree.first_lean = given[0] - LEAN_SHIFT
    return [0, was]


def try_order(tree, given):
    if sorted(given) != tree.loose_parts():
        return [NOT_AS_TOLD]
    too_soon = first_too_soon(tree, given)
    if too_soon > 0:
        return [1, too_soon]
    leans = leans_by(tree, given)
    return [0, max(leans), min(leans)]


def right(tree, given):
    return [0, least_far(tree, RIGHT)]


def left(tree, given):
    # Farther to the left is told by a lesser lean.
    return [0, -least_far(tree, LEFT)]


def both(tree, given):
    return [0, least_far(tree, EITHER)]


def order(tree, given):
    if given[0] >= SIDES:
        return [NOT_AS_TOLD]
    parts = least_order(tree, given[0])
    return [len(parts)] + parts


def told(tree, given):
    parts = []
    for row in rows_of_tree(tree):
        parts.extend(row)
    return [0, max(leans_by(tree, parts))] + parts


def rows(tree, given):
    found = rows_of_tree(tree)
    numbers = [len(found)]
    for row in found:
        numbers.extend([len(row), peak(tree.changes, row), total(tree.changes, row)])
    return numbers


def ways(tree, given):
    return [count_orders(tree)]


def may(tree, given):
    parts = next_behind(tree, given)
    if parts is None:
        return [NOT_AS_TOLD]
    return [len(parts)] + parts


def first(tree, given):
    if is_no_bough(tree, given[0]):
        return [NO_SUCH_PART]
    if len(tree.boughs_on(given[0])) > 0:
        return [SOMETHING_HANGS_ON_IT]
    return [0, least_beginning_with(tree, given[0], RIGHT)]


def keeps(tree, given):
    return [1 if least_far(tree, EITHER) <= given[0] else 0]


def ifchange(tree, given):
    # On a twin, so that the tree itself is not changed, not for a while either; what change refuses is refused here.
    twin = tree.twin()
    changed = change(twin, given)
    if changed[0] < 0:
        return changed
    return right(twin, [])


def iflean(tree, given):
    twin = tree.twin()
    changed = lean(twin, given)
    if changed[0] < 0:
        return changed
    return both(twin, [])


def boughs(tree, given):
    if given[0] >= tree.part_count():
        return [NO_SUCH_PART]
    parts = tree.boughs_on(given[0])
    return [len(parts)] + parts


def look(tree, given):
    if is_no_bough(tree, given[0]):
        return [NO_SUCH_PART]
    return [tree.hung_on[given[0]], tree.changes[given[0]]]


def ends(tree, given):
    # The last lean is the same by every row of all parts, whether it is an order or not.
    leans = leans_by(tree, tree.loose_parts())
    return [0, leans[0], leans[-1]]


def state(tree, given):
    return [0, tree.part_count(), tree.first_lean]


# By the calls' numbers: what answers each, and how many plain numbers it is given.
CALLS = (begin, bough, change, less, lean, try_order, right, left, both, order, told,
         rows, ways, may, first, keeps, ifchange, iflean, boughs, look, ends, state)
PLAIN_NUMBERS = (1, 2, 2, 0, 1, 0, 0, 0, 0, 1, 0,
                 0, 0, 0, 1, 1, 2, 1, 1, 1, 0, 0)
BEGIN_CALL = 0
CALLS_WITH_ROW = (5, 13)


def answer_call(tree, number, given):
    if number != BEGIN_CALL and not tree.begun:
        return [NOT_BEGUN]
    return CALLS[number](tree, given)


def answers(calls):
    """For each call how many numbers it answers, then these."""
    tree = Tree()
    answered = []
    place = 0
    while place < len(calls):
        number = calls[place]
        start = place + 1
        size = PLAIN_NUMBERS[number]
        if number in CALLS_WITH_ROW:
            size = calls[start]
            start += 1
        numbers = answer_call(tree, number, calls[start:start + size])
        answered.append(len(numbers))
        answered.extend(numbers)
        place = start + size
    return answered
