"""Depths of groupings, edits of their things, and the flattest, best kept and narrowest groupings of a class."""

from shiftfolds.bests import (
    are_bounds_by, best_grouping, fronts_up, greatest_bounds, grouping_value, is_best, least_value, sums_rule,
)
from shiftfolds.equals import block_values, is_inputs_of, steps_of_grouping
from shiftfolds.errors import InvalidCount, InvalidInputs, InvalidValue, InvalidWeights
from shiftfolds.forms import is_count, is_count_list, is_one_of
from shiftfolds.groupings import check_any_grouping
from shiftfolds.stretches import check_fold, folds_of


def depths(grouping):
    """The list of the depths of the things of a grouping."""
    check_any_grouping(grouping)
    found = []
    for at in range(len(grouping) + 1):
        found.append(len([first for first, end in grouping if first <= at < end]))
    return found


def depth_of(grouping):
    """The greatest depth of a thing of a grouping."""
    return max(depths(grouping))


def grouping_of_depths(depths):
    """The grouping whose things have some depths."""
    if not isinstance(depths, list) or not is_count_list(depths, len(depths)):
        raise InvalidWeights(depths)
    blocks = []
    whole = []
    for at, depth in enumerate(depths):
        whole.append((at, at + 1, depth))
        # two neighbours of one depth are the parts of a block: the later one has no other neighbour by then
        while len(whole) > 1 and whole[-1][2] == whole[-2][2] > 0:
            _, end, deep = whole.pop()
            first = whole.pop()[0]
            whole.append((first, end, deep - 1))
            blocks.append((first, end))
    if len(whole) != 1 or whole[0][2] != 0:
        raise InvalidWeights(depths)
    return sorted(blocks)


def edit(base, row, grouping, inputs, place, value):
    """The list of the blocks that are done anew for another value of a thing, with their values before and behind."""
    check_fold(base, row, grouping)
    typed = base.typed()
    if not is_inputs_of(typed, row, inputs):
        raise InvalidInputs(inputs)
    if not is_count(place) or place >= len(row):
        raise InvalidCount(place)
    if not is_one_of(value, typed.holding()[row[place]]):
        raise InvalidValue(value)
    table, steps = typed.operation().table(), steps_of_grouping(grouping)
    before = block_values(table, steps, inputs)
    behind = block_values(table, steps, inputs[:place] + [value] + inputs[place + 1:])
    return changed_blocks(steps, before, behind, place, inputs[place] != value)


def changed_blocks(steps, before, behind, place, is_changed):
    """The list of the blocks that hold a place with their values before and behind, till one keeps its value."""
    found = []
    goes_on = is_changed
    for first, _, end in steps:
        if goes_on and first <= place < end:
            found.append(((first, end), before[(first, end)], behind[(first, end)]))
            goes_on = before[(first, end)] != behind[(first, end)]
    return found


def deepened(base, row, grouping):
    """The tuple of the classes of the row's stretches, of that of the grouping, and of the rule of depths."""
    stretches = folds_of(base, row, grouping)
    rule = lambda first, mid, end, left, right: block_depth(left, right)
    return (stretches, stretches.whole(grouping), rule)


def block_depth(left, right):
    """The depth of the deepest thing in a block, of those in its parts."""
    return 1 + max(left, right)


def least_depth(base, row, grouping):
    """The least of the greatest depths of the groupings of the class."""
    told = deepened(base, row, grouping)
    return least_value(*told)


def flattest(base, row, grouping):
    """A grouping of the class that has the least depth."""
    told = deepened(base, row, grouping)
    return best_grouping(*told)


def is_flattest(base, row, grouping, value):
    """Whether any object is a grouping of the class that has the least depth."""
    told = deepened(base, row, grouping)
    return is_best(*told, value)


def depth_bounds(base, row, grouping):
    """The depth bounds in which each number is as great as can be."""
    told = deepened(base, row, grouping)
    return greatest_bounds(*told)


def are_depth_bounds(base, row, grouping, value):
    """Whether any object is depth bounds."""
    told = deepened(base, row, grouping)
    return are_bounds_by(*told, value)


def check_weights(size, weights):
    """Raises InvalidWeights unless an object is a list of so many counts."""
    if not is_count_list(weights, size):
        raise InvalidWeights(weights)


def weights_rule(weights):
    """The rule by which values are weights: each block adds those of its things."""
    return sums_rule(lambda first, mid, end: sum(weights[first:end]))


def weight_of(grouping, weights):
    """What a grouping weighs."""
    check_any_grouping(grouping)
    check_weights(len(grouping) + 1, weights)
    return grouping_value(grouping, weights_rule(weights))


def weighed(base, row, grouping, weights):
    """The tuple of the classes of the row's stretches, of that of the grouping, and of the rule of weights."""
    stretches = folds_of(base, row, grouping)
    check_weights(len(row), weights)
    return (stretches, stretches.whole(grouping), weights_rule(weights))


def least_weight(base, row, grouping, weights):
    """The least that a grouping of the class weighs."""
    told = weighed(base, row, grouping, weights)
    return least_value(*told)


def best_kept(base, row, grouping, weights):
    """A grouping of the class that weighs least."""
    told = weighed(base, row, grouping, weights)
    return best_grouping(*told)


def is_best_kept(base, row, grouping, weights, value):
    """Whether any object is a grouping of the class that weighs least."""
    told = weighed(base, row, grouping, weights)
    return is_best(*told, value)


def weight_bounds(base, row, grouping, weights):
    """The weight bounds in which each number is as great as can be."""
    told = weighed(base, row, grouping, weights)
    return greatest_bounds(*told)


def are_weight_bounds(base, row, grouping, weights, value):
    """Whether any object is weight bounds."""
    told = weighed(base, row, grouping, weights)
    return are_bounds_by(*told, value)


def room_made(left, right):
    """The room of a block whose parts have these rooms."""
    return left + 1 if left == right else max(left, right)


def room_of(grouping):
    """How many values have to be held at once in the best order."""
    check_any_grouping(grouping)
    # a rule has 0 for a thing, whose room is 1: so it tells one less all through
    return 1 + grouping_value(grouping, lambda first, mid, end, left, right: room_made(left, right))


def two_rooms(base, row, grouping):
    """The ascending list of the rooms and depths of groupings of the class that no other one undercuts."""
    stretches = folds_of(base, row, grouping)

    def both(key, split, left, right):
        return (room_made(left[0], right[0]), block_depth(left[1], right[1]))
    return list(fronts_up(stretches, stretches.whole(grouping), (1, 0), both))
