"""Typings: kinds of values, which tell the kind of what two values make."""

from itertools import product

from shiftfolds.errors import InvalidHolding, InvalidKind, InvalidKinds, InvalidTable, InvalidTyping, InvalidValue
from shiftfolds.forms import (
    all_from, bracketings, first_unlike, head_of, is_ascending_list_of, is_one_of, is_tuple_of, join_heads,
    joined_lists, lone_heads, ordered_table, table_names,
)
from shiftfolds.operations import Operation, bracket_likeness, bracket_steps, check_operation, folded


class Kinds:
    """Kinds, told by the table of what each two of them make; three make one kind however they are bracketed."""

    def __init__(self, table):
        names = table_names(table)
        if names is None or first_unlike(table, names) is not None:
            raise InvalidTable(table)
        self._names = names
        self._table = ordered_table(table, names)

    def table(self):
        """The dictionary from the tuples of two kinds, ascending, to what they make."""
        return {pair: self._table[pair] for pair in self._table}

    def names(self):
        """The ascending list of the kinds."""
        return list(self._names)

    def put(self, first, second):
        """The kind that two kinds make."""
        if not is_one_of(first, self._names):
            raise InvalidKind(first)
        if not is_one_of(second, self._names):
            raise InvalidKind(second)
        return self._table[(first, second)]

    def __eq__(self, other):
        return isinstance(other, Kinds) and self._table == other._table


class Typing:
    """An operation, kinds, and the values that each kind holds."""

    def __init__(self, operation, kinds, holding):
        check_holding(operation, kinds, holding)
        if first_breaking(operation, kinds, holding) is not None:
            raise InvalidHolding(holding)
        self._operation = operation
        self._kinds = kinds
        self._holding = {kind: list(holding[kind]) for kind in kinds.names()}

    def operation(self):
        """The operation."""
        return self._operation

    def kinds(self):
        """The Kinds."""
        return self._kinds

    def holding(self):
        """The dictionary from the kinds, ascending, to the ascending lists of their values."""
        return {kind: list(self._holding[kind]) for kind in self._holding}

    def __eq__(self, other):
        return (
            isinstance(other, Typing) and self._operation == other._operation and self._kinds == other._kinds
            and self._holding == other._holding
        )


def check_kinds(kinds):
    """Raises InvalidKinds for any object that is no Kinds."""
    if not isinstance(kinds, Kinds):
        raise InvalidKinds(kinds)


def check_typing(typed):
    """Raises InvalidTyping for any object that is no typing."""
    if not isinstance(typed, Typing):
        raise InvalidTyping(typed)


def check_holding(operation, kinds, holding):
    """Raises the error of the first of the three that is none; the holding need not be sound."""
    check_operation(operation)
    check_kinds(kinds)
    if not is_told(operation, kinds, holding) or len(holding) != len(kinds.names()):
        raise InvalidHolding(holding)
    if not all([len(held) > 0 for held in holding.values()]):
        raise InvalidHolding(holding)


def is_told(operation, kinds, told):
    """Whether any object is a dictionary from some kinds to ascending lists, perhaps empty, of values."""
    if not isinstance(told, dict) or not all([is_one_of(kind, kinds.names()) for kind in told]):
        return False
    values = operation.names()
    return all([is_ascending_list_of(held, values) for held in told.values()])


def first_breaking(operation, kinds, holding):
    """The first tuple of two kinds, and a value of each, that make no value of the kind made, None if none is."""
    table = operation.table()
    put = kinds.table()
    for one, other in put:
        held = {value: True for value in holding[put[(one, other)]]}
        for first, second in product(holding[one], holding[other]):
            if table[(first, second)] not in held:
                return (one, other, first, second)
    return None


def breaking(operation, kinds, holding):
    """A tuple of two kinds, and a value of each, that make no value of the kind made, None if there is none."""
    check_holding(operation, kinds, holding)
    return first_breaking(operation, kinds, holding)


def is_breaking(operation, kinds, holding, value):
    """Whether any object is a tuple that breaking may return."""
    check_holding(operation, kinds, holding)
    if not isinstance(value, tuple) or len(value) != 4 or not is_tuple_of(value[:2], 2, kinds.names()):
        return False
    one, other, first, second = value
    if not is_one_of(first, holding[one]) or not is_one_of(second, holding[other]):
        return False
    return operation.do(first, second) not in holding[kinds.put(one, other)]


def kinds_of_value(typed, word):
    """The ascending list of the kinds that a value has."""
    check_typing(typed)
    if not is_one_of(word, typed.operation().names()):
        raise InvalidValue(word)
    holding = typed.holding()
    return [kind for kind in holding if word in holding[kind]]


def least_holding(operation, kinds, told):
    """The dictionary from all kinds to the values that they have to hold if they hold what is told."""
    check_operation(operation)
    check_kinds(kinds)
    if not is_told(operation, kinds, told):
        raise InvalidHolding(told)
    table = operation.table()
    put = kinds.table()
    start = [(kind, value) for kind in told for value in told[kind]]
    made = all_from(start, lambda one, other: (put[(one[0], other[0])], table[(one[1], other[1])]))
    holding = {kind: [] for kind in kinds.names()}
    for kind, value in sorted(made):
        holding[kind].append(value)
    return holding


def least_typing(operation, kinds, told):
    """The typing with the least holding, None if a kind holds nothing there."""
    holding = least_holding(operation, kinds, told)
    if not all([len(held) > 0 for held in holding.values()]):
        return None
    return Typing(operation, kinds, holding)


def finest_typing(operation):
    """The typing whose kinds are the lists of the bracket likeness, named by their least values."""
    likeness = bracket_likeness(operation)
    kinds = Kinds(folded(operation, likeness).table())
    return Typing(operation, kinds, {part[0]: part for part in likeness})


def likeness_steps(operation):
    """Steps whose tuples join just the values of each list of the bracket likeness."""
    check_operation(operation)
    return bracket_steps(operation)


def are_likeness_steps(operation, value):
    """Whether any object is steps whose tuples join just the values of each list of the bracket likeness."""
    likeness = bracket_likeness(operation)
    if not isinstance(value, list):
        return False
    table = operation.table()
    heads = lone_heads(operation.names())
    for step in value:
        if not is_step(table, heads, step):
            return False
        join_heads(heads, step[0], step[1])
    return joined_lists(heads) == likeness


def is_step(table, heads, step):
    """Whether any object is a step behind those that joined the heads."""
    if not isinstance(step, tuple) or len(step) != 3 or not is_tuple_of(step[:2], 2, heads):
        return False
    reason = step[2]
    if not isinstance(reason, tuple) or not is_tuple_of(reason[1:], 3, heads):
        return False
    word, first, second, third = reason
    if word == "three":
        made = bracketings(table, first, second, third)
    elif head_of(heads, second) != head_of(heads, third):
        return False
    elif word == "ahead":
        made = (table[(first, second)], table[(first, third)])
    elif word == "behind":
        made = (table[(second, first)], table[(third, first)])
    else:
        return False
    one, other = step[:2]
    return one != other and made in ((one, other), (other, one))


def kinds_typing(kinds):
    """The typing whose operation has the kinds as values, each kind holding the one value of its name."""
    check_kinds(kinds)
    return Typing(Operation(kinds.table()), kinds, {name: [name] for name in kinds.names()})
