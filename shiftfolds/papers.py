"""Texts of operations, typings, bases and changes: writers, and readers that take just what these write."""

from shiftfolds.changes import is_change
from shiftfolds.errors import FoldError, InvalidChange, InvalidText
from shiftfolds.operations import Operation, check_operation
from shiftfolds.rights import Base, check_base
from shiftfolds.typings import Kinds, Typing, check_typing


def table_rows_text(table):
    """The list of the lines of a table, its keys ascending."""
    return [" ".join([first, second, "=", table[(first, second)]]) for first, second in sorted(table)]


def operation_text(operation):
    """The text of an operation."""
    check_operation(operation)
    return "\n".join(table_rows_text(operation.table()))


def typing_rows(typed):
    """The list of the lines of a typing."""
    holding = typed.holding()
    rows = table_rows_text(typed.operation().table()) + ["kinds"] + table_rows_text(typed.kinds().table())
    return rows + ["holding"] + [" ".join([kind] + holding[kind]) for kind in holding]


def typing_text(typed):
    """The text of a typing."""
    check_typing(typed)
    return "\n".join(typing_rows(typed))


def base_text(base):
    """The text of a base."""
    check_base(base)
    return "\n".join(typing_rows(base.typed()) + [base.word()] + [" ".join(triple) for triple in base.triples()])


def change_text(change):
    """The text of a change."""
    if not is_change(change):
        raise InvalidChange(change)
    return " ".join(change)


def rows_of(text):
    """The list of the lines of any object, none unless it is a string."""
    return text.split("\n") if isinstance(text, str) else []


def table_read(rows):
    """The dictionary of the table that some lines tell, or of what is near it."""
    table = {}
    for row in rows:
        pieces = row.split(" ")
        if len(pieces) == 4:
            table[(pieces[0], pieces[1])] = pieces[3]
    return table


def place_in(rows, wanted):
    """The position of the first of some lines that is one of the wanted ones, that of the end if none is."""
    for at, row in enumerate(rows):
        if row in wanted:
            return at
    return len(rows)


def typing_read(rows):
    """The typing that some lines tell leniently; raises an error of the package if they tell none."""
    middle, last = place_in(rows, ["kinds"]), place_in(rows, ["holding"])
    holding = {}
    for row in rows[last + 1:]:
        pieces = row.split(" ")
        holding[pieces[0]] = pieces[1:]
    return Typing(Operation(table_read(rows[:middle])), Kinds(table_read(rows[middle + 1:last])), holding)


def base_read(rows):
    """The base that some lines tell leniently; raises an error of the package if they tell none."""
    at = place_in(rows, ["right", "left"])
    word = rows[at] if at < len(rows) else ""
    return Base(typing_read(rows[:at]), [tuple(row.split(" ")) for row in rows[at + 1:]], word)


def operation_read(rows):
    """The operation that some lines tell leniently; raises an error of the package if they tell none."""
    return Operation(table_read(rows))


def read_by(text, read, write):
    """What a writer makes a text of, by a reader that takes more than that; raises InvalidText if there is none."""
    try:
        found = read(rows_of(text))
    except FoldError:
        raise InvalidText(text)
    if write(found) != text:
        raise InvalidText(text)
    return found


def read_operation(text):
    """The operation that has a text."""
    return read_by(text, operation_read, operation_text)


def read_typing(text):
    """The typing that has a text."""
    return read_by(text, typing_read, typing_text)


def read_base(text):
    """The base that has a text."""
    return read_by(text, base_read, base_text)


def read_change(text):
    """The change that has a text."""
    change = tuple(text.split(" ")) if isinstance(text, str) else ()
    if not is_change(change):
        raise InvalidText(text)
    return change
