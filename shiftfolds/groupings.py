"""Rows, groupings of their things, and deeds that shift blocks: their forms, and what is told of them by form."""

from shiftfolds.errors import InvalidGrouping, InvalidRow
from shiftfolds.forms import is_ascending, is_count, is_list_of


def is_row_of(names, value):
    """Whether any object is a list, not empty, of some kinds."""
    return is_list_of(value, names) and len(value) > 0


def check_row(kinds, row):
    """Raises InvalidRow unless an object is a row of the kinds."""
    if not is_row_of(kinds.names(), row):
        raise InvalidRow(row)


def is_count_tuple(value, size):
    """Whether any object is a tuple of so many counts."""
    return isinstance(value, tuple) and len(value) == size and all([is_count(part) for part in value])


def is_block(size, value):
    """Whether any object is a block of so many things."""
    return is_count_tuple(value, 2) and value[0] + 2 <= value[1] <= size


def is_block_list(size, value):
    """Whether any object is an ascending list of unlike blocks of so many things."""
    return isinstance(value, list) and all([is_block(size, block) for block in value]) and is_ascending(value)


def are_apart(blocks):
    """Whether of ascending blocks no two overlap."""
    for at, (first, end) in enumerate(blocks):
        for second, other in blocks[at + 1:]:
            # an elder block begins no later: both overlap if it ends within the later one
            if first < second < end < other:
                return False
    return True


def is_grouping_of(size, value):
    """Whether any object is a grouping of so many things."""
    return is_block_list(size, value) and len(value) == size - 1 and are_apart(value)


def check_grouping(size, grouping):
    """Raises InvalidGrouping unless an object is a grouping of so many things."""
    if not is_grouping_of(size, grouping):
        raise InvalidGrouping(grouping)


def check_any_grouping(grouping):
    """Raises InvalidGrouping unless an object is a grouping of one thing more than it has blocks."""
    if not isinstance(grouping, list) or not is_grouping_of(len(grouping) + 1, grouping):
        raise InvalidGrouping(grouping)


def plain_blocks(size):
    """The plain grouping of so many things."""
    return [(0, end) for end in range(2, size + 1)]


def mids_of(grouping):
    """The dictionary from the blocks of a grouping, or of a part of it, to the places where their first parts end."""
    ends, mids = {}, {}
    for first, end in grouping:
        # of the blocks that begin at one place the next shorter one is the first part
        mids[(first, end)] = ends.get(first, first + 1)
        ends[first] = end
    return mids


def inner_first(grouping):
    """The list of the blocks of a grouping, each one behind those that it holds."""
    return sorted(grouping, key=lambda block: (block[1], -block[0]))


def stretch_kinds(table, row):
    """The dictionary from the stretches of a row, single things among them, to what their kinds make."""
    found = {}
    for first, kind in enumerate(row):
        found[(first, first + 1)] = kind
        for end in range(first + 2, len(row) + 1):
            found[(first, end)] = table[(found[(first, end - 1)], row[end - 1])]
    return found


def fitting_deeds(grouping):
    """The ascending list of the deeds that fit a grouping, let or not."""
    mids = mids_of(grouping)
    found = []
    for first, end in grouping:
        mid = mids[(first, end)]
        if (first, mid) in mids:
            found.append(("right", first, mids[(first, mid)], mid, end))
        if (mid, end) in mids:
            found.append(("left", first, mid, mids[(mid, end)], end))
    return sorted(found)


def deeds_let(kinds_of, triples, grouping):
    """The ascending list of the deeds that fit a grouping and are let, by the kinds of stretches and by triples."""
    found = []
    for deed in fitting_deeds(grouping):
        _, first, second, third, end = deed
        if (kinds_of[(first, second)], kinds_of[(second, third)], kinds_of[(third, end)]) in triples:
            found.append(deed)
    return found


def deed_done(grouping, deed):
    """The grouping behind a deed that fits."""
    word, first, second, third, end = deed
    gone, new = (first, third), (second, end)
    if word == "left":
        gone, new = new, gone
    return sorted([block for block in grouping if block != gone] + [new])


def deed_turned(deed):
    """The deed that leads back from what a deed made."""
    word, first, second, third, end = deed
    return ("left" if word == "right" else "right", first, second, third, end)


def is_one_deed(deeds, value):
    """Whether any object is one of some deeds."""
    # the counts come first: True and False would be found for 1 and 0
    return isinstance(value, tuple) and is_count_tuple(value[1:], 4) and value in deeds


def is_chain_of(kinds_of, triples, one, other, value):
    """Whether any object is a chain of let deeds that leads from one grouping to another one."""
    if not isinstance(value, list):
        return False
    at = one
    for deed in value:
        if not is_one_deed(deeds_let(kinds_of, triples, at), deed):
            return False
        at = deed_done(at, deed)
    return at == other
