"""Rows of parts, put together from the twigs on."""


def peak(changes, row):
    """The greatest of the row's changes added from its first one on, one at least."""
    added = changes[row[0]]
    greatest = added
    for part in row[1:]:
        added += changes[part]
        greatest = max(greatest, added)
    return greatest


def total(changes, row):
    return sum([changes[part] for part in row])


def standing(changes, row):
    """Where a row belongs: that with the lesser standing ahead, those with the same one are alike."""
    all_added = total(changes, row)
    greatest = peak(changes, row)
    if all_added <= 0:
        return (0, greatest)
    return (1, all_added - greatest)


def rows_for_boughs(tree, part, rows_for):
    """The rows of all that hang on the part, in one line."""
    rows = []
    for bough in tree.boughs_on(part):
        rows.extend(rows_for[bough])
    # Python keeps alike ones as they came: by their boughs, then as they were for that bough.
    return sorted(rows, key=lambda row: standing(tree.changes, row))


def with_part(changes, rows, part):
    """The rows for a part, made from the rows for its boughs."""
    joined = rows + [[part]]
    while len(joined) > 1 and standing(changes, joined[-1]) < standing(changes, joined[-2]):
        last = joined.pop()
        joined[-1] = joined[-1] + last
    return joined


def rows_of_tree(tree):
    rows_for = {}
    # What hangs on a part has a greater number, so its rows are there before the part's own are asked for.
    for part in reversed(tree.loose_parts()):
        rows_for[part] = with_part(tree.changes, rows_for_boughs(tree, part, rows_for), part)
    return rows_for_boughs(tree, 0, rows_for)
