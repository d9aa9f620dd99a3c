"""Groupings of a class that have least values, and bounds that show it.

A rule tells the value of a block of the places where it begins, where its parts meet and where it ends, and of the
values of both parts, 0 for a thing. It never falls if one of these grows: so least values come of least ones.
"""

from shiftfolds.forms import is_count
from shiftfolds.groupings import inner_first, is_grouping_of, mids_of
from shiftfolds.stretches import built, halves, is_keyed_by, values_up


def sums_rule(cost):
    """The rule by which values are sums of what each block costs, told of the three places."""
    return lambda first, mid, end, left, right: cost(first, mid, end) + left + right


def grouping_value(grouping, rule):
    """The value of a grouping by a rule."""
    mids = mids_of(grouping)
    values = {}
    made = 0
    for first, end in inner_first(grouping):
        mid = mids[(first, end)]
        made = rule(first, mid, end, values.get((first, mid), 0), values.get((mid, end), 0))
        values[(first, end)] = made
    return made


def least_values(stretches, top, rule):
    """The dictionary from the classes that come in one to tuples of their least value and of a split that has it."""
    def least(key, told):
        return min([(rule(key[0], split[0], key[1], left[0], right[0]), split) for split, left, right in told])
    return values_up(stretches, top, (0, ()), least)


def least_value(stretches, top, rule):
    """The least value by a rule of the groupings of a class."""
    return least_values(stretches, top, rule).get(top, (0, ()))[0]


def best_grouping(stretches, top, rule):
    """A grouping of a class that has the least value by a rule."""
    values = least_values(stretches, top, rule)
    return built(stretches, top, lambda key: values[key][1])


def is_of_class(stretches, top, value):
    """Whether any object is a grouping of a class of the whole row."""
    return is_grouping_of(stretches.size(), value) and stretches.whole(value) == top


def is_best(stretches, top, rule, value):
    """Whether any object is a grouping of a class that has the least value by a rule."""
    return is_of_class(stretches, top, value) and grouping_value(value, rule) == least_value(stretches, top, rule)


def greatest_bounds(stretches, top, rule):
    """The dictionary from the classes that come in one, ascending, to their greatest bounds: the least values."""
    values = least_values(stretches, top, rule)
    return {key: values[key][0] for key in sorted(values)}


def are_bounds_by(stretches, top, rule, value):
    """Whether any object is a dictionary from the classes that come in one to bounds by a rule."""
    keys = stretches.coming(top)
    if not is_keyed_by(stretches.size(), keys, value) or not all([is_count(number) for number in value.values()]):
        return False
    for key in keys:
        for split in stretches.splits(key):
            left, right = halves(key, split)
            if value[key] > rule(key[0], split[0], key[1], value.get(left, 0), value.get(right, 0)):
                return False
    return True


def front(pairs):
    """The ascending list of those of some tuples of two numbers that no other one undercuts."""
    found = []
    for pair in sorted(pairs):
        if not found or pair[1] < found[-1][1]:
            found.append(pair)
    return found


def fronts_up(stretches, top, thing, pair_of):
    """The list of the least tuples of two numbers of the groupings of a class, a thing having a tuple of its own.

    What `pair_of` makes of a class, a split and the tuples of both halves never falls if one of these grows.
    """
    def fronts(key, told):
        made = {}
        for split, left, right in told:
            for one in left:
                for other in right:
                    made[pair_of(key, split, one, other)] = True
        return front(made)
    return values_up(stretches, top, [thing], fronts).get(top, [thing])
