"""Prices of groupings, and the groupings of a class that cost least."""

from shiftfolds.bests import (
    are_bounds_by, best_grouping, fronts_up, greatest_bounds, grouping_value, is_best, is_of_class, least_value,
    sums_rule,
)
from shiftfolds.errors import InvalidPrices
from shiftfolds.forms import is_tuple_of
from shiftfolds.groupings import check_grouping, deed_done, deeds_let, is_count_tuple, is_one_deed, stretch_kinds
from shiftfolds.rights import check_base
from shiftfolds.stretches import built, check_fold, folds_of, halves, stretches_of, values_up


def is_prices_of(names, value):
    """Whether any object is prices of kinds."""
    if not isinstance(value, dict) or len(value) != len(names) * len(names):
        return False
    if not all([is_tuple_of(pair, 2, names) for pair in value]):
        return False
    return all([is_count_tuple(price, 3) for price in value.values()])


def are_prices(base, value):
    """Whether any object is prices of the kinds of a base."""
    check_base(base)
    return is_prices_of(base.typed().kinds().names(), value)


def check_priced(base, row, grouping, prices):
    """Raises the error of the first of the four that is none."""
    check_fold(base, row, grouping)
    if not are_prices(base, prices):
        raise InvalidPrices(prices)


def price_cost(base, row, prices):
    """The function that tells what a block costs, of where it begins, where its parts meet and where it ends."""
    kinds_of = stretch_kinds(base.typed().kinds().table(), row)

    def cost(first, mid, end):
        fixed, left, right = prices[(kinds_of[(first, mid)], kinds_of[(mid, end)])]
        return fixed + left * (mid - first) + right * (end - mid)
    return cost


def priced(base, row, grouping, prices):
    """The tuple of the classes of the row's stretches, of that of the grouping, and of the rule of prices."""
    check_priced(base, row, grouping, prices)
    stretches = stretches_of(base, row)
    return (stretches, stretches.whole(grouping), sums_rule(price_cost(base, row, prices)))


def price_of(base, row, grouping, prices):
    """What a grouping costs."""
    check_priced(base, row, grouping, prices)
    return grouping_value(grouping, sums_rule(price_cost(base, row, prices)))


def least_price(base, row, grouping, prices):
    """The least that a grouping of the class costs."""
    told = priced(base, row, grouping, prices)
    return least_value(*told)


def cheapest(base, row, grouping, prices):
    """A grouping of the class that costs least."""
    told = priced(base, row, grouping, prices)
    return best_grouping(*told)


def is_cheapest(base, row, grouping, prices, value):
    """Whether any object is a grouping of the class that costs least."""
    told = priced(base, row, grouping, prices)
    return is_best(*told, value)


def many_cheapest(base, row, grouping, prices):
    """How many groupings of the class cost least."""
    stretches, top, rule = priced(base, row, grouping, prices)

    def least(key, told):
        found = []
        for split, left, right in told:
            found.append((rule(key[0], split[0], key[1], left[0], right[0]), left[1] * right[1]))
        lowest = min([price for price, _ in found])
        return (lowest, sum([many for price, many in found if price == lowest]))
    return values_up(stretches, top, (0, 1), least).get(top, (0, 1))[1]


def bounds_of(base, row, grouping, prices):
    """The bounds for prices in which each number is as great as can be."""
    told = priced(base, row, grouping, prices)
    return greatest_bounds(*told)


def are_bounds(base, row, grouping, prices, value):
    """Whether any object is bounds for prices."""
    told = priced(base, row, grouping, prices)
    return are_bounds_by(*told, value)


def two_prices(base, row, grouping, prices, others):
    """The ascending list of what groupings of the class that no other one undercuts cost by both prices."""
    stretches, top, rule = priced(base, row, grouping, prices)
    other_rule = priced(base, row, grouping, others)[2]

    def both(key, split, left, right):
        first, mid, end = key[0], split[0], key[1]
        return (rule(first, mid, end, left[0], right[0]), other_rule(first, mid, end, left[1], right[1]))
    return list(fronts_up(stretches, top, (0, 0), both))


def compared(base, row, grouping, wished):
    """The tuple of the classes of the row's stretches, of that of the grouping, and of a rule.

    By the rule values are numbers of blocks that a wished grouping has not.
    """
    stretches = folds_of(base, row, grouping)
    check_grouping(len(row), wished)
    known = {block: True for block in wished}
    rule = sums_rule(lambda first, mid, end: 0 if (first, end) in known else 1)
    return (stretches, stretches.whole(grouping), rule)


def most_shared(base, row, grouping, wished):
    """The greatest number of blocks that a grouping of the class shares with a wished one."""
    told = compared(base, row, grouping, wished)
    return len(wished) - least_value(*told)


def nearest(base, row, grouping, wished):
    """A grouping of the class that shares as many blocks as can be with a wished one."""
    told = compared(base, row, grouping, wished)
    return best_grouping(*told)


def is_nearest(base, row, grouping, wished, value):
    """Whether any object is a grouping of the class that shares as many blocks as can be with a wished one."""
    told = compared(base, row, grouping, wished)
    return is_best(*told, value)


def prices_alike(base, row, grouping, prices):
    """Whether all groupings of the class cost the same."""
    return unlike_shift(base, row, grouping, prices) is None


def unlike_shift(base, row, grouping, prices):
    """A tuple of a grouping of the class and of a deed let there that changes what it costs, None if there is none."""
    check_priced(base, row, grouping, prices)
    stretches = stretches_of(base, row)
    top = stretches.whole(grouping)
    cost = price_cost(base, row, prices)
    for key in stretches.coming(top):
        for split in stretches.splits(key):
            left = halves(key, split)[0]
            # deeds to the left lead back along deeds to the right: so these are enough
            for inner in stretches.splits(left):
                deed = ("right", key[0], inner[0], split[0], key[1])
                if changes_cost(stretches, cost, deed):
                    picked = splits_down(stretches, top, key)
                    picked[key], picked[left] = split, inner
                    return (grouping_by_splits(stretches, top, picked), deed)
    return None


def changes_cost(stretches, cost, deed):
    """Whether a deed to the right is let and changes what blocks cost."""
    _, first, second, third, end = deed
    ahead = cost(first, second, third) + cost(first, third, end)
    return stretches.is_let(first, second, third, end) and ahead != cost(second, third, end) + cost(first, second, end)


def grouping_by_splits(stretches, top, picked):
    """A grouping of a class in which some classes that stand in it have the splits that a dictionary tells."""
    return built(stretches, top, lambda key: picked[key] if key in picked else stretches.splits(key)[0])


def splits_down(stretches, top, wanted):
    """The dictionary from the classes on a way from one down to one that comes in it to the splits that lead there."""
    above = {}
    for key in stretches.coming(top):
        for split in stretches.splits(key):
            for half in halves(key, split):
                above[half] = (key, split)
    found = {}
    at = wanted
    while at != top:
        at, split = above[at]
        found[at] = split
    return found


def is_unlike_shift(base, row, grouping, prices, value):
    """Whether any object is a tuple that unlike_shift may return."""
    check_priced(base, row, grouping, prices)
    stretches = stretches_of(base, row)
    if not isinstance(value, tuple) or len(value) != 2:
        return False
    if not is_of_class(stretches, stretches.whole(grouping), value[0]):
        return False
    kinds_of = stretch_kinds(base.typed().kinds().table(), row)
    if not is_one_deed(deeds_let(kinds_of, base.triples(), value[0]), value[1]):
        return False
    rule = sums_rule(price_cost(base, row, prices))
    return grouping_value(value[0], rule) != grouping_value(deed_done(value[0], value[1]), rule)
