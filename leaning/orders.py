"""Orders in which the parts come off, and how far the tree leans by them.

Which parts are off is written as one whole number, a bit for each part. The lean then depends on that number
alone, not on the order so far; so the least is found by going through these numbers instead of all orders.
"""

RIGHT = 0
LEFT = 1
EITHER = 2


def leans_by(tree, row):
    """The lean at first, and that behind each part of the row."""
    lean = tree.first_lean
    leans = [lean]
    for part in row:
        lean += tree.changes[part]
        leans.append(lean)
    return leans


def first_too_soon(tree, row):
    """The first part of the row that comes off ahead of one that hangs on it; 0 if there is none."""
    off = {}
    for part in row:
        off[part] = True
        for bough in tree.boughs_on(part):
            if bough not in off:
                return part
    return 0


def how_far(lean, side):
    """How far this lean is to the side, so that for each side the lesser is the less far."""
    if side == RIGHT:
        return lean
    if side == LEFT:
        return -lean
    return abs(lean)


def bit_of(part):
    return 1 << (part - 1)


def bits_of(parts):
    return sum([bit_of(part) for part in parts])


def bits_on_parts(tree):
    """For each part the bits of those that hang on it."""
    return [bits_of(tree.boughs_on(part)) for part in range(tree.part_count())]


def may_come_off(hanging, off):
    """The parts that may come off next, rising."""
    return [part for part in range(1, len(hanging)) if not off & bit_of(part) and hanging[part] & off == hanging[part]]


def lean_when(tree, off):
    return tree.first_lean + sum([tree.changes[part] for part in tree.loose_parts() if off & bit_of(part)])


def least_from(tree, hanging, side):
    """For each number that tells which are off: how far it leans, at the least, from there to the end."""
    all_off = bits_of(tree.loose_parts())
    least = [0] * (all_off + 1)
    # A part that comes off makes the number greater, so the greater ones are known first.
    for off in range(all_off, -1, -1):
        least[off] = how_far(lean_when(tree, off), side)
        if off != all_off:
            onward = min([least[off | bit_of(part)] for part in may_come_off(hanging, off)])
            least[off] = max(least[off], onward)
    return least


def least_far(tree, side):
    """How far it leans to the side by the order by which it leans least far."""
    return least_from(tree, bits_on_parts(tree), side)[0]


def least_beginning_with(tree, part, side):
    """How far it leans to the side, at the least, by orders that begin with this part, on which nothing may hang."""
    least = least_from(tree, bits_on_parts(tree), side)
    return max(how_far(tree.first_lean, side), least[bit_of(part)])


def least_order(tree, side):
    """The first of the orders by which it leans least far to the side."""
    hanging = bits_on_parts(tree)
    least = least_from(tree, hanging, side)
    order = []
    off = 0
    for step in tree.loose_parts():
        # Any part will do that keeps within the whole order's least, even if another would lean less from here on.
        good = [part for part in may_come_off(hanging, off) if least[off | bit_of(part)] <= least[0]]
        order.append(good[0])
        off = off | bit_of(good[0])
    return order


def count_orders(tree):
    """How many orders there are; for the trunk alone it is one, in which nothing comes off."""
    hanging = bits_on_parts(tree)
    all_off = bits_of(tree.loose_parts())
    ways_to = [1] + [0] * all_off
    # A part that comes off makes the number greater, so all ways to a number are known when it is come to.
    for off in range(all_off):
        for part in may_come_off(hanging, off):
            ways_to[off | bit_of(part)] += ways_to[off]
    return ways_to[all_off]


def next_behind(tree, row):
    """The parts that may come off next behind those of the row, rising; None if these may not come off so."""
    hanging = bits_on_parts(tree)
    off = 0
    for part in row:
        if part not in may_come_off(hanging, off):
            return None
        off = off | bit_of(part)
    return may_come_off(hanging, off)
