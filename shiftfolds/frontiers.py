"""Profiles of groupings: how many steps they need on any number of hands, and the best ones of a class."""

from itertools import zip_longest

from shiftfolds.bests import is_of_class
from shiftfolds.forms import is_count_from
from shiftfolds.groupings import check_any_grouping
from shiftfolds.hands import block_depths, check_hands, check_run, depth_numbers, steps_by_numbers
from shiftfolds.stretches import folds_of, halves, is_keyed_by, values_up


def profile(grouping):
    """The list of the numbers of the blocks of a grouping at depth 0, 1, .. or more."""
    check_any_grouping(grouping)
    return profile_of(grouping)


def profile_of(grouping):
    """The profile of what is known to be a grouping."""
    return depth_numbers(list(block_depths(grouping).values()))


def steps_of(grouping, hands):
    """The least number of steps in which a grouping can be run on so many hands."""
    check_run(grouping, hands)
    return profile_steps(profile_of(grouping), hands)


def profile_steps(numbers, hands):
    """The least number of steps in which a grouping with a profile can be run on so many hands."""
    return max(steps_by_numbers(numbers, hands), default=0)


def is_nowhere_greater(one, other):
    """Whether each number of a list is at most that of another one, whose numbers behind its end are 0."""
    return len(one) <= len(other) and all([first <= second for first, second in zip(one, other)])


def profile_made(key, left, right):
    """The tuple of the profile of a block that is a class, of the profiles of both parts."""
    return (key[1] - key[0] - 1, *[one + other for one, other in zip_longest(left, right, fillvalue=0)])


def profiles_up(stretches, top):
    """The dictionary from the classes that come in one to the dictionaries from the profiles of their frontiers.

    A profile, as a tuple, leads to a tuple of a split and of the profiles of both halves with which it is made.
    """
    def best(key, told):
        made = {}
        for split, left, right in told:
            for one in left:
                for other in right:
                    made[profile_made(key, one, other)] = (split, one, other)
        return {numbers: made[numbers] for numbers in least_profiles(list(made))}
    return values_up(stretches, top, {(): None}, best)


def least_profiles(profiles):
    """The ascending list of those of some profiles than which no other one is nowhere greater."""
    found = []
    # what is nowhere greater than a profile stands ahead of it
    for numbers in sorted(profiles):
        if not any([is_nowhere_greater(least, numbers) for least in found]):
            found.append(numbers)
    return found


def frontier_of(stretches, top):
    """The ascending list of the profiles, as tuples, of the frontier of a class."""
    return list(profiles_up(stretches, top).get(top, {(): None}))


def with_profile(profiles, top, numbers):
    """A grouping of a class that has a profile of its frontier."""
    blocks = []
    waiting = [(top, numbers)]
    while waiting:
        key, wanted = waiting.pop()
        if key[1] - key[0] > 1:
            blocks.append((key[0], key[1]))
            split, one, other = profiles[key][wanted]
            left, right = halves(key, split)
            waiting.append((left, one))
            waiting.append((right, other))
    return sorted(blocks)


def frontier(base, row, grouping):
    """The ascending list of the profiles of groupings of the class than which no other one is nowhere greater."""
    stretches = folds_of(base, row, grouping)
    return [list(numbers) for numbers in frontier_of(stretches, stretches.whole(grouping))]


def frontier_groupings(base, row, grouping):
    """A list of groupings of the class, one with each profile of its frontier, in their order."""
    stretches = folds_of(base, row, grouping)
    top = stretches.whole(grouping)
    profiles = profiles_up(stretches, top)
    return [with_profile(profiles, top, numbers) for numbers in profiles.get(top, {(): None})]


def are_frontier_groupings(base, row, grouping, value):
    """Whether any object is a list that frontier_groupings may return."""
    stretches = folds_of(base, row, grouping)
    top = stretches.whole(grouping)
    if not isinstance(value, list) or not all([is_of_class(stretches, top, found) for found in value]):
        return False
    return [tuple(profile_of(found)) for found in value] == frontier_of(stretches, top)


def fronts_of(base, row, grouping):
    """The fronts in which the list of each class is its frontier."""
    stretches = folds_of(base, row, grouping)
    profiles = profiles_up(stretches, stretches.whole(grouping))
    return {key: [list(numbers) for numbers in profiles[key]] for key in sorted(profiles)}


def is_front_list(value):
    """Whether any object is a list, not empty, of lists, not empty, of counts from 1 on."""
    if not isinstance(value, list) or not value:
        return False
    for numbers in value:
        if not isinstance(numbers, list) or not numbers:
            return False
        if not all([is_count_from(number, 1) for number in numbers]):
            return False
    return True


def are_fronts(base, row, grouping, value):
    """Whether any object is fronts of the class."""
    stretches = folds_of(base, row, grouping)
    keys = stretches.coming(stretches.whole(grouping))
    if not is_keyed_by(len(row), keys, value) or not all([is_front_list(lists) for lists in value.values()]):
        return False
    for key in keys:
        for split in stretches.splits(key):
            left, right = halves(key, split)
            if not is_held(key, value[key], value.get(left, [[]]), value.get(right, [[]])):
                return False
    return True


def is_held(key, lists, left, right):
    """Whether some list of a class is nowhere greater than what each two lists of both halves make."""
    for one in left:
        for other in right:
            made = profile_made(key, one, other)
            if not any([is_nowhere_greater(numbers, made) for numbers in lists]):
                return False
    return True


def least_steps(profiles, hands):
    """The least number of steps that some profiles tell for so many hands."""
    return min([profile_steps(numbers, hands) for numbers in profiles])


def class_steps(base, row, grouping, hands):
    """The least number of steps in which a grouping of the class can be run on so many hands."""
    stretches = folds_of(base, row, grouping)
    check_hands(hands)
    return least_steps(frontier_of(stretches, stretches.whole(grouping)), hands)


def fastest(base, row, grouping, hands):
    """A grouping of the class with the least number of steps on so many hands."""
    stretches = folds_of(base, row, grouping)
    check_hands(hands)
    top = stretches.whole(grouping)
    profiles = profiles_up(stretches, top)
    found = min(profiles.get(top, {(): None}), key=lambda numbers: profile_steps(numbers, hands))
    return with_profile(profiles, top, found)


def is_fastest(base, row, grouping, hands, value):
    """Whether any object is a grouping of the class with the least number of steps on so many hands."""
    stretches = folds_of(base, row, grouping)
    check_hands(hands)
    top = stretches.whole(grouping)
    if not is_of_class(stretches, top, value):
        return False
    return profile_steps(profile_of(value), hands) == least_steps(frontier_of(stretches, top), hands)


def is_least_for_all(numbers, profiles, size):
    """Whether a profile tells as few steps as the best of some for EVERY number of hands."""
    # from as many hands as there are blocks on the numbers stay as they are
    for hands in range(1, size + 1):
        if profile_steps(numbers, hands) > least_steps(profiles, hands):
            return False
    return True


def best_for_all(base, row, grouping):
    """A grouping of the class that is fastest for EVERY number of hands, None if there is none."""
    stretches = folds_of(base, row, grouping)
    top = stretches.whole(grouping)
    profiles = profiles_up(stretches, top)
    found = list(profiles.get(top, {(): None}))
    for numbers in found:
        if is_least_for_all(numbers, found, len(row)):
            return with_profile(profiles, top, numbers)
    # rows of twelve things and more may have none
    return None


def is_best_for_all(base, row, grouping, value):
    """Whether any object is a grouping of the class that is fastest for EVERY number of hands."""
    stretches = folds_of(base, row, grouping)
    top = stretches.whole(grouping)
    if not is_of_class(stretches, top, value):
        return False
    return is_least_for_all(profile_of(value), frontier_of(stretches, top), len(row))
