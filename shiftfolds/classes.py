"""Classes of groupings under a base: their last groupings, splits, sizes and places."""

from shiftfolds.errors import InvalidCount, InvalidGrouping
from shiftfolds.forms import is_count
from shiftfolds.groupings import check_grouping, inner_first, is_grouping_of, mids_of
from shiftfolds.stretches import check_based_row, folds_of, halves, is_class, stretches_of, values_up


def last_of(base, row, grouping):
    """The last grouping of a grouping's class."""
    return list(class_of(base, row, grouping))


def class_of(base, row, grouping):
    """The tuple that tells a grouping's class."""
    return folds_of(base, row, grouping).told(grouping)


def are_joined(base, row, one, other):
    """Whether two groupings are joined."""
    stretches = folds_of(base, row, one)
    check_grouping(len(row), other)
    return stretches.told(one) == stretches.told(other)


def splits_of(base, row, grouping):
    """The ascending list of the splits of a grouping's class."""
    stretches = folds_of(base, row, grouping)
    return stretches.splits(stretches.whole(grouping))


def class_with(base, row, one, other):
    """The tuple that tells the class that two groupings make side by side."""
    check_based_row(base, row)
    if not isinstance(one, list) or len(one) + 1 >= len(row) or not is_grouping_of(len(one) + 1, one):
        raise InvalidGrouping(one)
    mid, end = len(one) + 1, len(row)
    check_grouping(end - mid, other)
    stretches = stretches_of(base, row)
    behind = [(first + mid, last + mid) for first, last in other]
    return stretches.beside(0, mid, end, stretches.told(one), stretches.told(behind))


def sizes_up(stretches, top):
    """The dictionary from the classes that come in one to the numbers of their groupings."""
    return values_up(stretches, top, 1, lambda key, told: sum([left * right for _, left, right in told]))


def class_size(base, row, grouping):
    """How many groupings are joined with one, it too."""
    stretches = folds_of(base, row, grouping)
    top = stretches.whole(grouping)
    return sizes_up(stretches, top).get(top, 1)


def size_by_splits(base, row, grouping):
    """The dictionary from the splits of a grouping's class to how many of its groupings have them."""
    stretches = folds_of(base, row, grouping)
    top = stretches.whole(grouping)
    return split_sizes(stretches, sizes_up(stretches, top), top)


def split_sizes(stretches, sizes, key):
    """The dictionary from the splits of a class, ascending, to the numbers of the groupings that have them."""
    found = {}
    for split in stretches.splits(key):
        left, right = halves(key, split)
        found[split] = sizes.get(left, 1) * sizes.get(right, 1)
    return found


def class_number(base, row):
    """How many classes all groupings of a row are in."""
    check_based_row(base, row)
    stretches = stretches_of(base, row)
    # each class has just one last grouping: so those to which no deed of the base's word is let are counted
    many = {}
    for first, end in row_blocks(len(row)):
        for mid in range(first + 1, end):
            many[(first, mid, end)] = count_last(stretches, many, first, mid, end)
    return count_of(many, 0, len(row))


def row_blocks(size):
    """The list of all blocks of so many things, shorter ones first."""
    return [(first, first + length) for length in range(2, size + 1) for first in range(size - length + 1)]


def count_of(many, first, end):
    """The number of the last groupings of a stretch, summed up over where their first parts end."""
    if end - first == 1:
        return 1
    return sum([many[(first, mid, end)] for mid in range(first + 1, end)])


def count_last(stretches, many, first, mid, end):
    """The number of the groupings of a stretch, parted at a place, to which no deed of the word is let."""
    if stretches.word() == "right":
        places = [place for place in range(first + 1, mid) if not stretches.is_let(first, place, mid, end)]
        left = sum([many[(first, place, mid)] for place in places]) if mid - first > 1 else 1
        return left * count_of(many, mid, end)
    places = [place for place in range(mid + 1, end) if not stretches.is_let(first, mid, place, end)]
    right = sum([many[(mid, place, end)] for place in places]) if end - mid > 1 else 1
    return count_of(many, first, mid) * right


def class_at(base, row, grouping, number):
    """The grouping at a position of a grouping's class."""
    stretches = folds_of(base, row, grouping)
    top = stretches.whole(grouping)
    sizes = sizes_up(stretches, top)
    if not is_count(number) or number >= sizes.get(top, 1):
        raise InvalidCount(number)
    blocks = []
    waiting = [(top, number)]
    while waiting:
        key, at = waiting.pop()
        if key[1] - key[0] > 1:
            blocks.append((key[0], key[1]))
            waiting.extend(halves_at(stretches, sizes, key, at))
    return sorted(blocks)


def halves_at(stretches, sizes, key, at):
    """Both halves of the grouping at a position of a class, each with its own position."""
    left_at = at
    for split, many in split_sizes(stretches, sizes, key).items():
        left, right = halves(key, split)
        if left_at < many:
            behind = sizes.get(right, 1)
            return [(left, left_at // behind), (right, left_at % behind)]
        left_at -= many
    return []


def class_place(base, row, grouping):
    """The position of a grouping in its class."""
    stretches = folds_of(base, row, grouping)
    sizes = sizes_up(stretches, stretches.whole(grouping))
    mids = mids_of(grouping)
    told, places = {}, {}
    for first, end in inner_first(grouping):
        mid = mids[(first, end)]
        own = (mid, told.get((first, mid), ()), told.get((mid, end), ()))
        key = (first, end, stretches.beside(first, mid, end, own[1], own[2]))
        inside = places.get((first, mid), 0) * sizes.get((mid, end, own[2]), 1) + places.get((mid, end), 0)
        ahead = split_sizes(stretches, sizes, key)
        told[(first, end)] = key[2]
        places[(first, end)] = inside + sum([ahead[split] for split in ahead if split < own])
    return places.get((0, len(row)), 0)


def coming(base, row, grouping):
    """The ascending list of the classes that come in a grouping's class."""
    stretches = folds_of(base, row, grouping)
    return sorted(stretches.coming(stretches.whole(grouping)))


def comes(base, row, grouping, value):
    """Whether any object is a class that comes in a grouping's class."""
    found = coming(base, row, grouping)
    return is_class(len(row), value) and value in found


def lone_stretches(base, row):
    """The ascending list of the blocks of a row whose things have some class of one grouping."""
    check_based_row(base, row)
    stretches = stretches_of(base, row)
    lone = {}
    for first, end in row_blocks(len(row)):
        lone[(first, end)] = [mid for mid in range(first + 1, end) if is_lone(stretches, lone, first, mid, end)]
    return sorted([block for block in lone if lone[block]])


def is_lone(stretches, lone, first, mid, end):
    """Whether some grouping of a stretch, parted at a place, is one to which no deed is let."""
    left = [place for place in lone.get((first, mid), []) if not stretches.is_let(first, place, mid, end)]
    right = [place for place in lone.get((mid, end), []) if not stretches.is_let(first, mid, place, end)]
    return (len(left) > 0 or mid - first == 1) and (len(right) > 0 or end - mid == 1)


def one_class(base, row):
    """Whether all groupings of a row are joined."""
    return class_number(base, row) == 1
