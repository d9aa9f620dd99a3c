"""Operations: tables that tell which value two values make, and likenesses of their values."""

from itertools import product

from shiftfolds.errors import InvalidCount, InvalidLikeness, InvalidMap, InvalidOperation, InvalidValue
from shiftfolds.forms import (
    all_from, bracketings, first_unlike, is_ascending, is_ascending_list_of, is_count, is_list_of, is_one_of,
    is_tuple_of, is_word, is_word_list, join_heads, joined_lists, lone_heads, ordered_table, table_names,
)


class Operation:
    """An operation on values, told by the table of what each two of them make."""

    def __init__(self, table):
        names = table_names(table)
        if names is None:
            raise InvalidOperation(table)
        self._names = names
        self._table = ordered_table(table, names)

    def table(self):
        """The dictionary from the tuples of two values, ascending, to what they make."""
        return {pair: self._table[pair] for pair in self._table}

    def names(self):
        """The ascending list of the values."""
        return list(self._names)

    def do(self, first, second):
        """What two values make."""
        if not is_one_of(first, self._names):
            raise InvalidValue(first)
        if not is_one_of(second, self._names):
            raise InvalidValue(second)
        return self._table[(first, second)]

    def __eq__(self, other):
        return isinstance(other, Operation) and self._table == other._table


def check_operation(operation):
    """Raises InvalidOperation for any object that is no operation."""
    if not isinstance(operation, Operation):
        raise InvalidOperation(operation)


def unlike_values(operation):
    """The first tuple of three values whose two bracketings are unlike, None if there is none."""
    check_operation(operation)
    return first_unlike(operation.table(), operation.names())


def values_from(operation, values):
    """The ascending list of all values that come from some by doing them, again and again."""
    check_operation(operation)
    if not is_list_of(values, operation.names()) or not values:
        raise InvalidValue(values)
    table = operation.table()
    return sorted(all_from(values, lambda one, other: table[(one, other)]))


def stopping_sums(values, zero):
    """The operation that adds positions, counted from that of zero on, and stops at both ends of the list."""
    check_word_list(values)
    if not is_count(zero) or zero >= len(values):
        raise InvalidCount(zero)
    last = len(values) - 1
    return operation_of_places(values, lambda first, second: max(0, min(last, first + second - zero)))


def differences(values):
    """The operation that takes the first position off the second one, around the list."""
    check_word_list(values)
    return operation_of_places(values, lambda first, second: (second - first) % len(values))


def check_word_list(values):
    """Raises InvalidValue unless an object is a list, not empty, of unlike words."""
    if not is_word_list(values):
        raise InvalidValue(values)


def operation_of_places(values, place_made):
    """The operation on listed values in which two make the value at the place that their places make."""
    table = {}
    for first, one in enumerate(values):
        for second, other in enumerate(values):
            table[(one, other)] = values[place_made(first, second)]
    return Operation(table)


def swallowing(operation, value):
    """The operation with one value more, which makes itself with any."""
    check_operation(operation)
    names = operation.names()
    if not is_word(value) or value in names:
        raise InvalidValue(value)
    table = operation.table()
    for name in names + [value]:
        table[(name, value)] = value
        table[(value, name)] = value
    return Operation(table)


def opposite(operation):
    """The operation in which two values make what they made the other way about."""
    check_operation(operation)
    table = operation.table()
    return Operation({(second, first): table[(first, second)] for first, second in table})


def renamed(operation, sent):
    """The operation with its values exchanged by a dictionary."""
    check_operation(operation)
    if not is_renaming(operation.names(), sent):
        raise InvalidMap(sent)
    table = operation.table()
    return Operation({(sent[first], sent[second]): sent[table[(first, second)]] for first, second in table})


def is_renaming(names, sent):
    """Whether any object is a dictionary from just some names to unlike words."""
    if not isinstance(sent, dict) or not all([is_one_of(name, names) for name in sent]):
        return False
    return len(sent) == len(names) and is_word_list(list(sent.values()))


def is_likeness(operation, value):
    """Whether any object is a likeness of an operation."""
    check_operation(operation)
    return is_parting(operation.names(), value) and is_kept(operation.table(), value)


def is_parting(names, value):
    """Whether any object is an ascending list of ascending lists, not empty, in which each name is just once."""
    if not isinstance(value, list):
        return False
    for part in value:
        if not is_ascending_list_of(part, names) or not part:
            return False
    return is_ascending(value) and sorted([name for part in value for name in part]) == names


def is_kept(table, lists):
    """Whether what alike values of a parting make with a value, on either side, is alike."""
    heads = list_heads(lists)
    names = list(heads)
    for name, alike in product(names, names):
        head = heads[alike]
        if heads[table[(name, alike)]] != heads[table[(name, head)]]:
            return False
        if heads[table[(alike, name)]] != heads[table[(head, name)]]:
            return False
    return True


def list_heads(lists):
    """The dictionary from the values of some lists to the first values of their lists."""
    return {name: part[0] for part in lists for name in part}


def likeness_by(operation, pairs):
    """The least likeness in which the two values of each pair are alike."""
    check_operation(operation)
    if not is_pairs(operation.names(), pairs):
        raise InvalidLikeness(pairs)
    heads = lone_heads(operation.names())
    steps = []
    for one, other in pairs:
        add_step(heads, steps, one, other, ())
    spread(operation.table(), heads, steps)
    return joined_lists(heads)


def is_pairs(names, value):
    """Whether any object is a list of tuples of two of some names."""
    return isinstance(value, list) and all([is_tuple_of(pair, 2, names) for pair in value])


def folded(operation, likeness):
    """The operation on the first values of the lists of a likeness."""
    if not is_likeness(operation, likeness):
        raise InvalidLikeness(likeness)
    heads = list_heads(likeness)
    table = operation.table()
    firsts = [part[0] for part in likeness]
    return Operation({(one, other): heads[table[(one, other)]] for one in firsts for other in firsts})


def bracket_likeness(operation):
    """The least likeness in which both bracketings of each three values are alike."""
    check_operation(operation)
    return lists_by_steps(operation, bracket_steps(operation))


def bracket_steps(operation):
    """Steps that join just the values of each list of the bracket likeness, none of them for nothing."""
    table = operation.table()
    names = operation.names()
    heads = lone_heads(names)
    steps = []
    for one, two, three in product(names, names, names):
        left, right = bracketings(table, one, two, three)
        add_step(heads, steps, left, right, ("three", one, two, three))
    spread(table, heads, steps)
    return steps


def add_step(heads, steps, one, other, reason):
    """Joins two values, and puts a step behind the others if they were apart."""
    if join_heads(heads, one, other):
        steps.append((one, other, reason))


def spread(table, heads, steps):
    """Joins what a likeness has to join beside what is joined, with steps that tell why."""
    names = sorted(heads)
    at = 0
    # steps grow as they are gone through: each one is a reason for others
    while at < len(steps):
        one, other, _ = steps[at]
        for name in names:
            add_step(heads, steps, table[(name, one)], table[(name, other)], ("ahead", name, one, other))
            add_step(heads, steps, table[(one, name)], table[(other, name)], ("behind", name, one, other))
        at += 1


def lists_by_steps(operation, steps):
    """The ascending lists of the values that steps join."""
    heads = lone_heads(operation.names())
    for one, other, _ in steps:
        join_heads(heads, one, other)
    return joined_lists(heads)
