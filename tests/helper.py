"""Calls written by name, answers taken apart, and a plain walk through all orders to hold the program against."""

import random
from itertools import permutations, product

from leaning.boughs import answers

RIGHT, LEFT, EITHER = 0, 1, 2


def begin(l):
    return [0, l]


def bough(p, c):
    return [1, p, c]


def change(i, c):
    return [2, i, c]


def less():
    return [3]


def lean(l):
    return [4, l]


def try_order(row):
    return [5, len(row)] + list(row)


def right():
    return [6]


def left():
    return [7]


def both():
    return [8]


def order(s):
    return [9, s]


def told():
    return [10]


def rows():
    return [11]


def ways():
    return [12]


def may(row):
    return [13, len(row)] + list(row)


def first(i):
    return [14, i]


def keeps(g):
    return [15, g]


def ifchange(i, c):
    return [16, i, c]


def iflean(l):
    return [17, l]


def boughs(i):
    return [18, i]


def look(i):
    return [19, i]


def ends():
    return [20]


def state():
    return [21]


def flat(calls):
    return [number for call in calls for number in call]


def apart(numbers):
    """The answers of a list of calls, one list for each call."""
    result = []
    place = 0
    while place < len(numbers):
        size = numbers[place]
        result.append(numbers[place + 1:place + 1 + size])
        if len(result[-1]) != size:
            raise ValueError("an answer is cut off")
        place += 1 + size
    return result


def run(*calls):
    """What each of the calls answers."""
    return apart(answers(flat(calls)))


def grow(first_lean, hung_on, changes):
    """The calls that make this tree; the lists speak of parts 1, 2 and so on, leans and changes with their signs."""
    return [begin(first_lean + 200)] + [bough(p, c + 50) for p, c in zip(hung_on, changes)]


def ask(first_lean, hung_on, changes, *calls):
    """What the calls answer on this tree."""
    made = grow(first_lean, hung_on, changes)
    return run(*made, *calls)[len(made):]


def shapes(count):
    """All that so many parts can hang on."""
    return list(product(*[range(part) for part in range(1, count + 1)]))


def trees(seed, count, how_many, changes):
    """So many trees of so many boughs, the same ones each time."""
    source = random.Random(seed)
    for k in range(how_many):
        hung_on = tuple(source.randrange(part) for part in range(1, count + 1))
        yield source.choice((0, source.randint(-9, 9), -200, 200)), hung_on, tuple(source.choices(changes, k=count))


def is_order(hung_on, row):
    place = {part: k for k, part in enumerate(row)}
    return all(p == 0 or place[part] < place[p] for part, p in enumerate(hung_on, 1))


def all_orders(hung_on):
    """All orders, the first ones first."""
    return [list(row) for row in permutations(range(1, len(hung_on) + 1)) if is_order(hung_on, row)]


def leans_of(first_lean, changes, row):
    leans = [first_lean]
    for part in row:
        leans.append(leans[-1] + changes[part - 1])
    return leans


def far(side, leans):
    return {RIGHT: max(leans), LEFT: -min(leans), EITHER: max(abs(lean) for lean in leans)}[side]


def walk(first_lean, hung_on, changes, side):
    """By a walk through all orders: how far, at the least, and the first order by which it is so."""
    best = None
    for row in all_orders(hung_on):
        here = far(side, leans_of(first_lean, changes, row))
        if best is None or here < best[0]:
            best = (here, row)
    return best


def children(hung_on, part):
    return [child for child, p in enumerate(hung_on, 1) if p == part]


def walk_first(first_lean, hung_on, changes, part):
    """By a walk through all orders that begin with the part: how far to the right, at the least."""
    return min(far(RIGHT, leans_of(first_lean, changes, row)) for row in all_orders(hung_on) if row[0] == part)


def walk_may(hung_on, row):
    """By a walk through all orders that begin as the row does: what comes next in them; None if there is none."""
    begun_so = [whole for whole in all_orders(hung_on) if whole[:len(row)] == list(row)]
    if not begun_so:
        return None
    return sorted({whole[len(row)] for whole in begun_so if len(whole) > len(row)})


def everything(count):
    """Calls that tell all there is of a tree with so many boughs, and change nothing."""
    calls = [state(), ends(), right(), left(), both(), order(0), order(1), order(2), told(), rows(), ways(), may([])]
    for part in range(count + 2):
        calls += [look(part), boughs(part), first(part), ifchange(part, 50)]
    return calls


def peak_and_total(changes, row):
    added = [sum(changes[part - 1] for part in row[:k + 1]) for k in range(len(row))]
    return max(added), added[-1]


def belongs_ahead(changes, one, other):
    """Whether one row belongs ahead of the other, word by word as the document says it."""
    one_peak, one_total = peak_and_total(changes, one)
    other_peak, other_total = peak_and_total(changes, other)
    if one_total <= 0 and other_total <= 0:
        return one_peak < other_peak
    if one_total > 0 and other_total > 0:
        return one_peak - one_total > other_peak - other_total
    return one_total <= 0


def plain_rows(hung_on, changes, part=0):
    """The rows for a part, for the trunk those of the tree; each row is put behind all that it isn't ahead of."""
    rows = []
    for child, p in enumerate(hung_on, 1):
        if p == part:
            for row in plain_rows(hung_on, changes, child):
                k = len(rows)
                while k > 0 and belongs_ahead(changes, row, rows[k - 1]):
                    k -= 1
                rows.insert(k, row)
    if part > 0:
        rows.append([part])
        while len(rows) > 1 and belongs_ahead(changes, rows[-1], rows[-2]):
            rows[-2:] = [rows[-2] + rows[-1]]
    return rows


def plain_rows_told(hung_on, changes):
    """How many rows, then of each how many parts, its peak, its total."""
    found = plain_rows(hung_on, changes)
    return [len(found)] + [number for row in found for number in (len(row), *peak_and_total(changes, row))]


def plain_try(first_lean, hung_on, changes, row):
    if sorted(row) != list(range(1, len(hung_on) + 1)):
        return [-22]
    for k, part in enumerate(row):
        if any(child in row[k:] for child in children(hung_on, part)):
            return [1, part]
    leans = leans_of(first_lean, changes, row)
    return [0, max(leans), min(leans)]


class PlainTree:
    """All calls on one tree, word by word as the document says it, by walks through all orders."""

    def __init__(self):
        self.first_lean = None
        self.hung_on = []
        self.changes = []

    def whole(self):
        return self.first_lean, self.hung_on, self.changes

    def answer(self, call):
        number, given = call[0], call[1:]
        if number != 0 and self.first_lean is None:
            return [-11]
        if number <= 4:
            return self.changing(number, given)
        if number <= 10 or number in (12, 15):
            return self.of_orders(number, given)
        if number in (11, 13, 14, 16, 17):
            return self.of_what_may_be(number, given)
        return self.as_it_stands(number, given)

    def changing(self, number, given):
        count = len(self.hung_on) + 1
        if number in (0, 4):
            if given[0] > 400:
                return [-22]
            was = self.first_lean
            self.first_lean = given[0] - 200
            if number == 4:
                return [0, was]
            self.hung_on, self.changes = [], []
            return [0]
        if number == 3:
            if count == 1:
                return [-6]
            self.hung_on, self.changes = self.hung_on[:-1], self.changes[:-1]
            return [count - 1]
        if given[0] >= count or number == 2 and given[0] == 0:
            return [-2]
        if given[1] > 100:
            return [-22]
        if number == 2:
            was = self.changes[given[0] - 1]
            self.changes[given[0] - 1] = given[1] - 50
            return [0, was]
        if count == 9:
            return [-28]
        self.hung_on, self.changes = self.hung_on + [given[0]], self.changes + [given[1] - 50]
        return [count]

    def of_orders(self, number, given):
        if number == 5:
            return plain_try(*self.whole(), given[1:])
        if number in (6, 8):
            return [0, walk(*self.whole(), number - 6)[0]]
        if number == 7:
            return [0, -walk(*self.whole(), LEFT)[0]]
        if number == 9:
            return [-22] if given[0] > 2 else [len(self.hung_on)] + walk(*self.whole(), given[0])[1]
        if number == 10:
            parts = [part for row in plain_rows(self.hung_on, self.changes) for part in row]
            return [0, max(leans_of(self.first_lean, self.changes, parts))] + parts
        if number == 12:
            return [len(all_orders(self.hung_on))]
        return [int(walk(*self.whole(), EITHER)[0] <= given[0])]

    def of_what_may_be(self, number, given):
        if number == 11:
            return plain_rows_told(self.hung_on, self.changes)
        if number == 13:
            parts = walk_may(self.hung_on, given[1:])
            return [-22] if parts is None else [len(parts)] + parts
        if number == 17:
            return [-22] if given[0] > 400 else [0, walk(given[0] - 200, self.hung_on, self.changes, EITHER)[0]]
        part = given[0]
        if part == 0 or part > len(self.hung_on):
            return [-2]
        if number == 14:
            return [-33] if children(self.hung_on, part) else [0, walk_first(*self.whole(), part)]
        if given[1] > 100:
            return [-22]
        changes = self.changes[:part - 1] + [given[1] - 50] + self.changes[part:]
        return [0, walk(self.first_lean, self.hung_on, changes, RIGHT)[0]]

    def as_it_stands(self, number, given):
        if number == 20:
            return [0, self.first_lean, self.first_lean + sum(self.changes)]
        if number == 21:
            return [0, len(self.hung_on) + 1, self.first_lean]
        part = given[0]
        if part > len(self.hung_on) or number == 19 and part == 0:
            return [-2]
        if number == 18:
            return [len(children(self.hung_on, part))] + children(self.hung_on, part)
        return [self.hung_on[part - 1], self.changes[part - 1]]
