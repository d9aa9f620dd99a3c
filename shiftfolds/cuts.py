"""Blocks that the groupings of a class have, and cuts of a row into pieces that are blocks of one of them."""

from shiftfolds.bests import is_of_class
from shiftfolds.classes import sizes_up
from shiftfolds.errors import InvalidBlocks, InvalidCount, InvalidCut
from shiftfolds.forms import is_ascending, is_count_from, is_count_list
from shiftfolds.groupings import are_apart, is_block_list
from shiftfolds.stretches import built, check_fold, folds_of, halves, stretches_of, values_up


def block_numbers(base, row, grouping):
    """The dictionary from the blocks that groupings of the class have to how many of them have each."""
    stretches = folds_of(base, row, grouping)
    top = stretches.whole(grouping)
    numbers = class_numbers(stretches, top, sizes_up(stretches, top))
    found = {}
    for key in sorted(numbers):
        found[(key[0], key[1])] = found.get((key[0], key[1]), 0) + numbers[key]
    return found


def class_numbers(stretches, top, sizes):
    """The dictionary from the classes that come in one to how many of its groupings have a block of each."""
    around = {key: 0 for key in sizes}
    for key in stretches.coming(top)[::-1]:
        # what is around a class is known by now: longer ones came ahead of it
        if key == top:
            around[key] = 1
        for split in stretches.splits(key):
            left, right = halves(key, split)
            add_around(around, sizes, left, around[key] * sizes.get(right, 1))
            add_around(around, sizes, right, around[key] * sizes.get(left, 1))
    return {key: around[key] * sizes[key] for key in sizes}


def add_around(around, sizes, key, many):
    """Adds to how often a class comes in groupings, each inside of it counted once; nothing for one thing."""
    if key in sizes:
        around[key] += many


def sure_blocks(base, row, grouping):
    """The ascending list of the blocks that all groupings of the class have."""
    numbers = block_numbers(base, row, grouping)
    # the block of all things is one that each grouping has: so many there are
    return [block for block in numbers if numbers[block] == numbers[(0, len(row))]]


def check_blocks(base, row, grouping, blocks):
    """Raises the error of the first of the four that is none."""
    check_fold(base, row, grouping)
    if not is_block_list(len(row), blocks) or not are_apart(blocks):
        raise InvalidBlocks(blocks)


def numbers_with(stretches, top, blocks):
    """The dictionary from the classes that come in one to how many of their groupings have all blocks within."""
    def many(key, told):
        return sum([left * right for split, left, right in told if not is_parted(key, split, blocks)])
    return values_up(stretches, top, 1, many)


def is_parted(key, split, blocks):
    """Whether a split of a class parts one of some blocks that lies within the stretch and is not all of it."""
    for first, end in blocks:
        if key[0] <= first < split[0] < end <= key[1] and (first, end) != (key[0], key[1]):
            return True
    return False


def some_with(stretches, top, blocks):
    """A grouping of a class that has all of some blocks, None if there is none."""
    numbers = numbers_with(stretches, top, blocks)
    if numbers.get(top, 1) == 0:
        return None

    def pick(key):
        for split in stretches.splits(key):
            left, right = halves(key, split)
            if not is_parted(key, split, blocks) and numbers.get(left, 1) > 0 and numbers.get(right, 1) > 0:
                return split
        return None
    return built(stretches, top, pick)


def grouping_with(base, row, grouping, blocks):
    """A grouping of the class that has all of some blocks, None if there is none."""
    check_blocks(base, row, grouping, blocks)
    stretches = stretches_of(base, row)
    return some_with(stretches, stretches.whole(grouping), blocks)


def is_grouping_with(base, row, grouping, blocks, value):
    """Whether any object is a grouping of the class that has all of some blocks."""
    check_blocks(base, row, grouping, blocks)
    stretches = stretches_of(base, row)
    return has_blocks(stretches, stretches.whole(grouping), blocks, value)


def has_blocks(stretches, top, blocks, value):
    """Whether any object is a grouping of a class that has all of some blocks."""
    return is_of_class(stretches, top, value) and all([block in value for block in blocks])


def many_with(base, row, grouping, blocks):
    """How many groupings of the class have all of some blocks."""
    check_blocks(base, row, grouping, blocks)
    stretches = stretches_of(base, row)
    top = stretches.whole(grouping)
    return numbers_with(stretches, top, blocks).get(top, 1)


def is_cut(size, value):
    """Whether any object is a cut of so many things."""
    if not isinstance(value, list) or not is_count_list(value, len(value)):
        return False
    return is_ascending(value) and all([0 < place < size for place in value])


def check_cut(base, row, grouping, cut):
    """Raises the error of the first of the four that is none."""
    check_fold(base, row, grouping)
    if not is_cut(len(row), cut):
        raise InvalidCut(cut)


def piece_ends(size, cut):
    """The list of the tuples of where the pieces of a cut begin and end."""
    return list(zip([0] + cut, cut + [size]))


def piece_blocks(size, cut):
    """The list of the pieces of two things or more."""
    return [(first, end) for first, end in piece_ends(size, cut) if end - first > 1]


def goes(base, row, grouping, cut):
    """Whether a cut goes in the class."""
    return grouping_by(base, row, grouping, cut) is not None


def grouping_by(base, row, grouping, cut):
    """A grouping of the class that has the pieces of a cut, None if it does not go."""
    check_cut(base, row, grouping, cut)
    stretches = stretches_of(base, row)
    return some_with(stretches, stretches.whole(grouping), piece_blocks(len(row), cut))


def is_grouping_by(base, row, grouping, cut, value):
    """Whether any object is a grouping of the class that has the pieces of a cut."""
    check_cut(base, row, grouping, cut)
    stretches = stretches_of(base, row)
    return has_blocks(stretches, stretches.whole(grouping), piece_blocks(len(row), cut), value)


def cuts_going(stretches, top):
    """The ascending list of the cuts that go in a class."""
    def cuts(key, told):
        # a stretch is one piece, or each of its halves is cut by itself
        found = {(): True}
        for split, left, right in told:
            for one in left:
                for other in right:
                    made = (*one, split[0], *other)
                    found[made] = True
        return list(found)
    return [list(cut) for cut in sorted(values_up(stretches, top, [()], cuts).get(top, [()]))]


def check_pieces(base, row, grouping, pieces):
    """Raises the error of the first of the four that is none, a count of at least 1 being asked at last."""
    check_fold(base, row, grouping)
    if not is_count_from(pieces, 1):
        raise InvalidCount(pieces)


def cuts_into(base, row, grouping, pieces):
    """The ascending list of the cuts into so many pieces that go."""
    check_pieces(base, row, grouping, pieces)
    stretches = stretches_of(base, row)
    return [cut for cut in cuts_going(stretches, stretches.whole(grouping)) if len(cut) + 1 == pieces]


def greatest_piece(size, cut):
    """The number of the things of the greatest piece of a cut."""
    return max([end - first for first, end in piece_ends(size, cut)])


def fewest_pieces(base, row, grouping, most):
    """The least number of pieces of a cut that goes and none of whose pieces has more than so many things."""
    check_pieces(base, row, grouping, most)
    stretches = stretches_of(base, row)
    found = cuts_going(stretches, stretches.whole(grouping))
    return 1 + min([len(cut) for cut in found if greatest_piece(len(row), cut) <= most])


def evenest_cut(base, row, grouping, pieces):
    """A cut into so many pieces that goes and whose greatest piece is as small as can be, None if none goes."""
    found = cuts_into(base, row, grouping, pieces)
    return min(found, key=lambda cut: greatest_piece(len(row), cut), default=None)


def is_evenest_cut(base, row, grouping, pieces, value):
    """Whether any object is a cut that evenest_cut may return."""
    found = cuts_into(base, row, grouping, pieces)
    if not is_cut(len(row), value) or value not in found:
        return False
    return greatest_piece(len(row), value) == min([greatest_piece(len(row), cut) for cut in found])
