"""Groupings that are equal for all inputs, chains of right triples, and operations that part the others."""

from itertools import product

from shiftfolds.errors import InvalidCount, InvalidInputs
from shiftfolds.forms import is_count_from, is_one_of
from shiftfolds.free import FreeClasses, free_of, parting_of
from shiftfolds.groupings import (
    check_grouping, check_row, deed_done, deeds_let, inner_first, is_chain_of, mids_of, stretch_kinds,
)
from shiftfolds.rights import are_right, check_triples, right_triples
from shiftfolds.stretches import check_fold, folds_of
from shiftfolds.typings import Typing, check_kinds, check_typing


def check_typed_row(typed, row):
    """Raises the error of the first of the two that is none."""
    check_typing(typed)
    check_row(typed.kinds(), row)


def check_two(typed, row, one, other):
    """Raises the error of the first of the four that is none."""
    check_typed_row(typed, row)
    check_grouping(len(row), one)
    check_grouping(len(row), other)


def is_inputs_of(typed, row, value):
    """Whether any object is inputs of a row."""
    if not isinstance(value, list) or len(value) != len(row):
        return False
    holding = typed.holding()
    return all([is_one_of(word, holding[kind]) for word, kind in zip(value, row)])


def are_inputs(typed, row, value):
    """Whether any object is inputs of a row."""
    check_typed_row(typed, row)
    return is_inputs_of(typed, row, value)


def value_of(typed, row, grouping, inputs):
    """The value of a grouping for inputs."""
    check_typed_row(typed, row)
    check_grouping(len(row), grouping)
    if not is_inputs_of(typed, row, inputs):
        raise InvalidInputs(inputs)
    return value_by(typed.operation().table(), steps_of_grouping(grouping), inputs)


def steps_of_grouping(grouping):
    """The list of the tuples of where the blocks of a grouping begin and where their parts end, parts first."""
    mids = mids_of(grouping)
    return [(first, mids[(first, end)], end) for first, end in inner_first(grouping)]


def block_values(table, steps, inputs):
    """The dictionary from the things and the blocks of a grouping, parts first, to their values for inputs."""
    values = {(at, at + 1): word for at, word in enumerate(inputs)}
    for first, mid, end in steps:
        values[(first, end)] = table[(values[(first, mid)], values[(mid, end)])]
    return values


def value_by(table, steps, inputs):
    """The value of a grouping, told by its steps, for inputs."""
    return block_values(table, steps, inputs)[(0, len(inputs))]


def inputs_number(holding, row):
    """How many inputs of a row there are."""
    many = 1
    for kind in row:
        many = many * len(holding[kind])
    return many


def inputs_at(holding, row, number):
    """The inputs of a row at a position: the last thing goes on first."""
    inputs = []
    left = number
    for kind in row[::-1]:
        inputs.append(holding[kind][left % len(holding[kind])])
        left = left // len(holding[kind])
    return inputs[::-1]


def first_unlike_inputs(typed, row, one, other):
    """The first inputs for which two groupings have unlike values, None if there are none."""
    table, holding = typed.operation().table(), typed.holding()
    first, second = steps_of_grouping(one), steps_of_grouping(other)
    for number in range(inputs_number(holding, row)):
        inputs = inputs_at(holding, row, number)
        if value_by(table, first, inputs) != value_by(table, second, inputs):
            return inputs
    return None


def are_equal(typed, row, one, other):
    """Whether two groupings are equal for ALL inputs."""
    return parting_inputs(typed, row, one, other) is None


def parting_inputs(typed, row, one, other):
    """Inputs for which two groupings have unlike values, None if there are none."""
    check_two(typed, row, one, other)
    if one == other:
        return None
    return first_unlike_inputs(typed, row, one, other)


def is_parting_by(typed, row, one, other, value):
    """Whether any object is inputs of a row for which two groupings have unlike values."""
    if not is_inputs_of(typed, row, value):
        return False
    table = typed.operation().table()
    return value_by(table, steps_of_grouping(one), value) != value_by(table, steps_of_grouping(other), value)


def is_parting(typed, row, one, other, value):
    """Whether any object is inputs that parting_inputs may return."""
    check_two(typed, row, one, other)
    return is_parting_by(typed, row, one, other, value)


def equal_folds(typed, row):
    """The ascending list of the ascending lists of the groupings of a row that are equal for ALL inputs."""
    check_typed_row(typed, row)
    found = {}
    for grouping, values in stretch_values(typed, row)[(0, len(row))]:
        found.setdefault(tuple(values), []).append(grouping)
    return sorted([sorted(groupings) for groupings in found.values()])


def stretch_values(typed, row):
    """The dictionary from the stretches to lists of tuples of a grouping and of its values for ALL inputs."""
    table, holding = typed.operation().table(), typed.holding()
    inputs = [inputs_at(holding, row, number) for number in range(inputs_number(holding, row))]
    found = {}
    for length in range(1, len(row) + 1):
        for first in range(len(row) - length + 1):
            end = first + length
            told = [([], [words[first] for words in inputs])] if length == 1 else []
            for mid in range(first + 1, end):
                # no stretch is longer than its whole: both parts were found ahead of it
                for (left, one), (right, other) in product(found[(first, mid)], found[(mid, end)]):
                    made = [table[(x, y)] for x, y in zip(one, other)]
                    told.append((sorted(left + right + [(first, end)]), made))
            found[(first, end)] = told
    return found


def free_typing(kinds, triples, row):
    """The tuple of the free typing of a row by triples, and of the inputs that are the classes of the things."""
    check_kinds(kinds)
    check_triples(kinds, triples)
    check_row(kinds, row)
    return free_of(kinds, triples, row)


def free_parting(typed, row, one, other):
    """A typing in which all right triples are right, and inputs that part two groupings; None if they are joined."""
    check_two(typed, row, one, other)
    triples = right_triples(typed)
    if chain_by(typed, triples, row, one, other) is not None:
        return None
    return free_of(typed.kinds(), triples, row)


def is_parting_pair(kinds, triples, row, one, other, value):
    """Whether any object is a tuple of a typing of the kinds, in which triples are right, and of parting inputs."""
    if not isinstance(value, tuple) or len(value) != 2 or not isinstance(value[0], Typing):
        return False
    typed, inputs = value
    if typed.kinds() != kinds or not is_parting_by(typed, row, one, other, inputs):
        return False
    return are_right(typed, triples)


def is_free_parting(typed, row, one, other, value):
    """Whether any object is a tuple that free_parting may return."""
    check_two(typed, row, one, other)
    return is_parting_pair(typed.kinds(), right_triples(typed), row, one, other, value)


def parting_operation(base, row, one, other):
    """A typing in which the base's triples are right, and inputs that part two groupings; None if they are joined."""
    stretches = folds_of(base, row, one)
    check_grouping(len(row), other)
    if stretches.told(one) == stretches.told(other):
        return None
    return parting_of(stretches, base.typed().kinds(), row, stretches.whole(one))


def is_parting_operation(base, row, one, other, value):
    """Whether any object is a tuple that parting_operation may return, of however many values."""
    check_fold(base, row, one)
    check_grouping(len(row), other)
    return is_parting_pair(base.typed().kinds(), base.triples(), row, one, other, value)


def chain_by(typed, triples, row, one, other):
    """A shortest chain of deeds at some triples from one grouping to another one, None if there is none."""
    kinds_of = stretch_kinds(typed.kinds().table(), row)
    known = {triple: True for triple in triples}
    chains = {tuple(one): []}
    waiting = [one]
    at = 0
    while at < len(waiting) and tuple(other) not in chains:
        grouping = waiting[at]
        for deed in deeds_let(kinds_of, known, grouping):
            made = deed_done(grouping, deed)
            if tuple(made) not in chains:
                chains[tuple(made)] = chains[tuple(grouping)] + [deed]
                waiting.append(made)
        at += 1
    return chains.get(tuple(other), None)


def shift_chain(typed, row, one, other):
    """A chain of deeds at right triples from one grouping to another one, None if they are not joined."""
    check_two(typed, row, one, other)
    return chain_by(typed, right_triples(typed), row, one, other)


def is_shift_chain(typed, row, one, other, value):
    """Whether any object is a chain that shift_chain may return."""
    check_two(typed, row, one, other)
    kinds_of = stretch_kinds(typed.kinds().table(), row)
    return is_chain_of(kinds_of, right_triples(typed), one, other, value)


def verdict(typed, row, one, other):
    """Whether two groupings are joined by right triples, equal for ALL inputs all the same, or unlike: a word."""
    if shift_chain(typed, row, one, other) is not None:
        return "joined"
    return "equal" if first_unlike_inputs(typed, row, one, other) is None else "unlike"


def tells_all(typed, size):
    """Whether of ALL rows of at most so many things no two groupings are equal without being joined."""
    check_typing(typed)
    if not is_count_from(size, 1):
        raise InvalidCount(size)
    names, triples = typed.kinds().names(), right_triples(typed)
    rows = [[]]
    for _ in range(size):
        rows = [row + [name] for row in rows for name in names]
        for row in rows:
            if not are_told(typed, triples, row):
                return False
    return True


def are_told(typed, triples, row):
    """Whether no two groupings of a row are equal for ALL inputs without being joined by triples."""
    table, holding = typed.operation().table(), typed.holding()
    found = FreeClasses(typed.kinds().table(), triples, row)
    groupings = [steps_of_grouping(found.least(number)) for number in found.classes(0, len(row))]
    lists = [groupings]
    many = inputs_number(holding, row)
    at = 0
    # inputs part lists of groupings that were equal so far, till none of two or more is left
    while lists and at < many:
        inputs = inputs_at(holding, row, at)
        lists = [part for alike in lists for part in parted(table, alike, inputs)]
        at += 1
    return not lists


def parted(table, alike, inputs):
    """The lists, of two groupings or more, of those of some that have the same value for inputs."""
    found = {}
    for steps in alike:
        found.setdefault(value_by(table, steps, inputs), []).append(steps)
    return [part for part in found.values() if len(part) > 1]
