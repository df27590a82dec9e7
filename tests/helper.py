"""Calls written by name, answers taken apart, and a plain walk through all orders to hold the program against."""

from itertools import permutations, product

from leaning.boughs import answers

RIGHT, LEFT, EITHER = 0, 1, 2


def begin(l):
    return [0, l]


def bough(p, c):
    return [1, p, c]


def change(i, c):
    return [2, i, c]


def less():
    return [3]


def lean(l):
    return [4, l]


def try_order(row):
    return [5, len(row)] + list(row)


def right():
    return [6]


def left():
    return [7]


def both():
    return [8]


def order(s):
    return [9, s]


def told():
    return [10]


def flat(calls):
    return [number for call in calls for number in call]


def apart(numbers):
    """The answers of a list of calls, one list for each call."""
    result = []
    place = 0
    while place < len(numbers):
        size = numbers[place]
        result.append(numbers[place + 1:place + 1 + size])
        if len(result[-1]) != size:
            raise ValueError("an answer is cut off")
        place += 1 + size
    return result


def run(*calls):
    """What each of the calls answers."""
    return apart(answers(flat(calls)))


def grow(first_lean, hung_on, changes):
    """The calls that make this tree; the lists speak of parts 1, 2 and so on, leans and changes with their signs."""
    return [begin(first_lean + 200)] + [bough(p, c + 50) for p, c in zip(hung_on, changes)]


def ask(first_lean, hung_on, changes, *calls):
    """What the calls answer on this tree."""
    made = grow(first_lean, hung_on, changes)
    return run(*made, *calls)[len(made):]


def shapes(count):
    """All that so many parts can hang on."""
    return list(product(*[range(part) for part in range(1, count + 1)]))


def is_order(hung_on, row):
    place = {part: k for k, part in enumerate(row)}
    return all(p == 0 or place[part] < place[p] for part, p in enumerate(hung_on, 1))


def all_orders(hung_on):
    """All orders, the first ones first."""
    return [list(row) for row in permutations(range(1, len(hung_on) + 1)) if is_order(hung_on, row)]


def leans_of(first_lean, changes, row):
    leans = [first_lean]
    for part in row:
        leans.append(leans[-1] + changes[part - 1])
    return leans


def far(side, leans):
    return {RIGHT: max(leans), LEFT: -min(leans), EITHER: max(abs(lean) for lean in leans)}[side]


def walk(first_lean, hung_on, changes, side):
    """By a walk through all orders: how far, at the least, and the first order by which it is so."""
    best = None
    for row in all_orders(hung_on):
        here = far(side, leans_of(first_lean, changes, row))
        if best is None or here < best[0]:
            best = (here, row)
    return best


def peak_and_total(changes, row):
    added = [sum(changes[part - 1] for part in row[:k + 1]) for k in range(len(row))]
    return max(added), added[-1]


def belongs_ahead(changes, one, other):
    """Whether one row belongs ahead of the other, word by word as the document says it."""
    one_peak, one_total = peak_and_total(changes, one)
    other_peak, other_total = peak_and_total(changes, other)
    if one_total <= 0 and other_total <= 0:
        return one_peak < other_peak
    if one_total > 0 and other_total > 0:
        return one_peak - one_total > other_peak - other_total
    return one_total <= 0


def plain_rows(hung_on, changes, part=0):
    """The rows for a part, for the trunk those of the tree; each row is put behind all that it isn't ahead of."""
    rows = []
    for child, p in enumerate(hung_on, 1):
        if p == part:
            for row in plain_rows(hung_on, changes, child):
                k = len(rows)
                while k > 0 and belongs_ahead(changes, row, rows[k - 1]):
                    k -= 1
                rows.insert(k, row)
    if part > 0:
        rows.append([part])
        while len(rows) > 1 and belongs_ahead(changes, rows[-1], rows[-2]):
            rows[-2:] = [rows[-2] + rows[-1]]
    return rows
