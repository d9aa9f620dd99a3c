"""Changes of operations and of what kinds hold, and what becomes of groupings that were joined."""

from itertools import combinations

from shiftfolds.equals import chain_by, first_unlike_inputs, is_parting_by
from shiftfolds.errors import Apart, InvalidChange, InvalidChanges, Refused
from shiftfolds.forms import is_one_of, is_word
from shiftfolds.groupings import check_grouping, check_row, is_chain_of, stretch_kinds
from shiftfolds.operations import Operation
from shiftfolds.rights import check_base, right_triples
from shiftfolds.typings import Typing, check_typing, first_breaking

WORDS_BEHIND = {"do": 3, "hold": 2, "drop": 2}


def is_change(value):
    """Whether any object is a change by its form."""
    if not isinstance(value, tuple) or not value or not is_one_of(value[0], list(WORDS_BEHIND)):
        return False
    return len(value) == 1 + WORDS_BEHIND[value[0]] and all([is_word(word) for word in value[1:]])


def check_changes(typed, changes):
    """Raises the error of the first of the two that is none; the changes need not fit."""
    check_typing(typed)
    if not isinstance(changes, list) or not all([is_change(change) for change in changes]):
        raise InvalidChanges(changes)


def fits(table, holding, change):
    """Whether a change fits an operation's table and a holding."""
    # a value is one of the operation if the table tells what it makes with itself
    if change[0] == "do":
        _, first, second, made = change
        return all([(value, value) in table for value in change[1:]]) and table[(first, second)] != made
    word, kind, value = change
    if kind not in holding or (value, value) not in table:
        return False
    if word == "hold":
        return value not in holding[kind]
    return value in holding[kind] and len(holding[kind]) > 1


def make_change(table, holding, change):
    """Makes a change, that fits, in a table and a holding."""
    if change[0] == "do":
        _, first, second, made = change
        table[(first, second)] = made
    else:
        word, kind, value = change
        rest = [held for held in holding[kind] if held != value]
        holding[kind] = sorted(rest + [value]) if word == "hold" else rest


def first_unfit(table, holding, changes):
    """The position of the first change that does not fit, None if all fit; makes those ahead of it."""
    for at, change in enumerate(changes):
        if not fits(table, holding, change):
            return at
        make_change(table, holding, change)
    return None


def told_behind(typed, changes):
    """The tuple of the operation and the holding behind changes; raises the error of the first that does not fit."""
    table, holding = typed.operation().table(), typed.holding()
    unfit = first_unfit(table, holding, changes)
    if unfit is not None:
        raise InvalidChange(changes[unfit])
    return (Operation(table), holding)


def changed_by(typed, changes):
    """The tuple of the operation and of the holding behind changes."""
    check_changes(typed, changes)
    return told_behind(typed, changes)


def broken_by(typed, changes):
    """The first tuple of two kinds, and a value of each, that break the typing behind changes, None if none does."""
    operation, holding = changed_by(typed, changes)
    return first_breaking(operation, typed.kinds(), holding)


def typing_behind(typed, changes):
    """The typing behind changes."""
    operation, holding = changed_by(typed, changes)
    if first_breaking(operation, typed.kinds(), holding) is not None:
        raise Refused(changes)
    return Typing(operation, typed.kinds(), holding)


def rights_changed(typed, changes):
    """The tuple of the lists of the triples that are right ahead of changes alone, and behind them alone."""
    behind = right_triples(typing_behind(typed, changes))
    ahead = right_triples(typed)
    return ([triple for triple in ahead if triple not in behind], [triple for triple in behind if triple not in ahead])


def check_joined(typed, row, one, other):
    """Raises the error of the first of the last three that is none, or that is not joined by ALL right triples."""
    check_row(typed.kinds(), row)
    check_grouping(len(row), one)
    check_grouping(len(row), other)
    if chain_by(typed, right_triples(typed), row, one, other) is None:
        raise Apart(other)


def fate_told(typed, operation, holding, row, one, other):
    """What becomes of two groupings if operation and holding are exchanged: the tuple of a fate."""
    broken = first_breaking(operation, typed.kinds(), holding)
    if broken is not None:
        return ("untyped", broken)
    behind = Typing(operation, typed.kinds(), holding)
    chain = chain_by(behind, right_triples(behind), row, one, other)
    if chain is not None:
        return ("stands", chain)
    inputs = first_unlike_inputs(behind, row, one, other)
    return ("equal",) if inputs is None else ("falls", inputs)


def fate(typed, changes, row, one, other):
    """A tuple that tells what becomes of two groupings that are joined."""
    operation, holding = changed_by(typed, changes)
    check_joined(typed, row, one, other)
    return fate_told(typed, operation, holding, row, one, other)


def is_fate(typed, changes, row, one, other, value):
    """Whether any object is a tuple that fate may return."""
    told = fate(typed, changes, row, one, other)
    if not isinstance(value, tuple) or len(value) != len(told) or value[0] != told[0]:
        return False
    if told[0] == "stands":
        behind = typing_behind(typed, changes)
        kinds_of = stretch_kinds(typed.kinds().table(), row)
        return is_chain_of(kinds_of, right_triples(behind), one, other, value[1])
    if told[0] == "falls":
        return is_parting_by(typing_behind(typed, changes), row, one, other, value[1])
    return value == told


def stand_behind(typed, changes, row, one, other):
    """Whether two groupings are joined behind changes, True also if these do not fit one after the other."""
    table, holding = typed.operation().table(), typed.holding()
    if first_unfit(table, holding, changes) is not None:
        return True
    operation = Operation(table)
    if first_breaking(operation, typed.kinds(), holding) is not None:
        return False
    behind = Typing(operation, typed.kinds(), holding)
    return chain_by(behind, right_triples(behind), row, one, other) is not None


def lies_within(lot, other):
    """Whether all positions of a lot are in another one."""
    return all([at in other for at in lot])


def breaking_lots(typed, changes, row, one, other):
    """The ascending list of the lots behind which two groupings do not stand, but do behind each lot within."""
    check_changes(typed, changes)
    check_joined(typed, row, one, other)
    found = []
    for size in range(1, len(changes) + 1):
        for lot in combinations(range(len(changes)), size):
            if not any([lies_within(less, lot) for less in found]):
                if not stand_behind(typed, [changes[at] for at in lot], row, one, other):
                    found.append(list(lot))
    return sorted(found)


def lost_of(base, changes):
    """The ascending list of a base's triples that are not right behind changes of its typing."""
    check_base(base)
    right = right_triples(typing_behind(base.typed(), changes))
    return [triple for triple in base.triples() if triple not in right]
