"""Scripts of commands for a works: playing them, their texts, and what of them is needed for their end."""

from shiftfolds.errors import (
    InvalidName, InvalidPlan, InvalidPrices, InvalidScript, InvalidSpot, InvalidText, InvalidValue, NothingToRedo,
    NothingToUndo, Refused, Unlike,
)
from shiftfolds.forms import is_count, is_figures, is_one_of, is_word
from shiftfolds.groupings import is_count_tuple, is_grouping_of
from shiftfolds.lines import read_lines
from shiftfolds.programs import Program, program_text
from shiftfolds.rights import check_base
from shiftfolds.works import Works, carry_out, check_works, copied_command

# The words of the commands, with what stands behind each one.
SHAPES = {
    "put": ("program",), "take": ("count",), "give": ("count", "word", "word"), "drop": ("count", "word"),
    "replan": ("count", "plan"), "cheapen": ("count", "prices"), "hasten": ("count",), "trim": ("count",),
    "merge": ("count",), "flatten": ("count",), "known": ("count",), "value_there": ("count", "word"), "undo": (),
    "redo": (), "try": ("script",),
}
# The words of the commands whose texts have further lines and an end.
LONG = ("put", "replan", "cheapen", "try")


def is_script(value):
    """Whether any object is a script."""
    # scripts within are put off: calls within calls would be too deep for texts of many tries
    waiting = [value]
    while waiting:
        script = waiting.pop()
        if not isinstance(script, list) or not all([is_command(command) for command in script]):
            return False
        waiting.extend([command[1] for command in script if command[0] == "try"])
    return True


def is_command(value):
    """Whether any object is a command of a script, whatever stands behind the word of a try."""
    if not isinstance(value, tuple) or not value or not is_one_of(value[0], list(SHAPES)):
        return False
    shapes = SHAPES[value[0]]
    return len(value) == 1 + len(shapes) and all([is_thing(shape, told) for shape, told in zip(shapes, value[1:])])


def is_thing(shape, value):
    """Whether any object is what a word tells, any one for a script."""
    if shape == "program":
        return isinstance(value, Program)
    if shape == "count":
        return is_count(value)
    if shape == "word":
        return is_word(value)
    if shape == "plan":
        return is_any_plan(value)
    return shape == "script" or are_any_prices(value)


def is_any_plan(value):
    """Whether any object is a dictionary from words to groupings of any number of things."""
    if not isinstance(value, dict) or not all([is_word(name) for name in value]):
        return False
    return all([isinstance(told, list) and is_grouping_of(len(told) + 1, told) for told in value.values()])


def are_any_prices(value):
    """Whether any object is a dictionary from tuples of two words to tuples of three counts."""
    if not isinstance(value, dict) or not all([is_count_tuple(price, 3) for price in value.values()]):
        return False
    for pair in value:
        if not isinstance(pair, tuple) or len(pair) != 2 or not all([is_word(word) for word in pair]):
            return False
    return True


def check_script(script):
    """Raises InvalidScript for any object that is no script."""
    if not is_script(script):
        raise InvalidScript(script)


def play(works, script):
    """Carries a script out on a works, and returns the list of what is said of each command."""
    check_works(works)
    check_script(script)
    return played(works, script)


def played(works, script):
    """Carries out what is known to be a script on a works, and returns the list of what is said."""
    return [said_of(works, command) for command in script]


def said_of(works, command):
    """Carries out a command on a works, and returns what is said of it."""
    try:
        return said_unless_refused(works, command)
    except Unlike:
        return ("refused", "Unlike")
    except InvalidSpot:
        return ("refused", "InvalidSpot")
    except InvalidName:
        return ("refused", "InvalidName")
    except InvalidValue:
        return ("refused", "InvalidValue")
    except InvalidPlan:
        return ("refused", "InvalidPlan")
    except InvalidPrices:
        return ("refused", "InvalidPrices")
    except Refused:
        return ("refused", "Refused")
    except NothingToUndo:
        return ("refused", "NothingToUndo")
    except NothingToRedo:
        return ("refused", "NothingToRedo")


def said_unless_refused(works, command):
    """Carries out a command on a works, and returns what is said of it unless a call raises an error."""
    word = command[0]
    if word == "known":
        return ("known", works.known(command[1]))
    if word == "value_there":
        return ("value", works.value_there(command[1], command[2]))
    if word == "try":
        with works.trial() as tried:
            return ("tried", played(tried, command[1]))
    if word == "undo":
        works.undo()
        return ("done",)
    if word == "redo":
        works.redo()
        return ("done",)
    told = carry_out(works, command)
    if word == "put":
        return ("put", told)
    return ("done",) if told is None else ("anew", told)


def script_text(script):
    """The text of a script."""
    check_script(script)
    return "\n".join(script_rows(script, ""))


def script_rows(script, ahead):
    """The list of the lines of a script, each behind some blanks."""
    found = []
    for command in script:
        # what stands in the command's own line are its word, its counts and its words
        found.append(ahead + " ".join([str(told) for told in command if isinstance(told, (int, str))]))
        if command[0] in LONG:
            found.extend(inner_rows(command, ahead + "  "))
            found.append(ahead + "end")
    return found


def inner_rows(command, ahead):
    """The list of the lines between that of a command and its end, each behind some blanks."""
    told = command[-1]
    if command[0] == "try":
        return script_rows(told, ahead)
    if command[0] == "put":
        return [ahead + row for row in program_text(told).split("\n")]
    rows = []
    for key in sorted(told):
        if command[0] == "replan":
            pieces = [key] + [str(place) for block in told[key] for place in block]
        else:
            pieces = list(key) + [str(count) for count in told[key]]
        rows.append(ahead + " ".join(pieces))
    return rows


def read_script(base, text):
    """The script of a base that has a text."""
    check_base(base)
    script = None
    if isinstance(text, str):
        script = script_read(base, text)
    # what was read leniently has to be a script, and the text the very one of it
    if not is_script(script) or script_text(script) != text:
        raise InvalidText(text)
    return script


def script_read(base, text):
    """A script that may have a text, None if there surely is none; it may be none by its form."""
    # what is open: the pieces of the line of each command that has no end so far, and what was read for it
    opened = [(["try"], [])]
    for row in text.split("\n") if text else []:
        ahead = "  " * (len(opened) - 1)
        if len(opened) > 1 and row == ahead[2:] + "end":
            pieces, inner = opened.pop()
            command = long_command(base, pieces, inner)
            if command is None:
                return None
            opened[-1][1].append(command)
        elif not row.startswith(ahead):
            return None
        else:
            read_row(opened, row[len(ahead):])
    return opened[0][1] if len(opened) == 1 else None


def read_row(opened, row):
    """Puts a line to what is open: a line of a plan and the like, a command, or the begin of a longer command."""
    head, inner = opened[-1]
    pieces = row.split(" ")
    if head[0] != "try":
        inner.append(row)
    elif pieces[0] in LONG:
        opened.append((pieces, []))
    else:
        inner.append(things_read(pieces))


def things_read(pieces):
    """The tuple of some pieces, those of figures as counts."""
    return tuple([int(piece) if is_figures(piece) else piece for piece in pieces])


def long_command(base, pieces, inner):
    """The command with an end that has some pieces in its line and some lines within, None if there is none."""
    things = things_read(pieces)
    if pieces[0] == "try":
        return (*things, inner)
    if pieces[0] == "put":
        lines = read_lines(base.typed().kinds().names(), "\n".join(inner))
        return None if lines is None else (*things, Program(base, lines))
    told = {}
    for row in inner:
        words = things_read(row.split(" "))
        if pieces[0] == "cheapen":
            told[words[:2]] = words[2:]
        else:
            told[words[0]] = list(zip(words[1::2], words[2::2]))
    return (*things, told)


def ends(works):
    """The dictionary from the spots of a works to the tuples of what is there."""
    found = {}
    for spot in works.spots():
        found[spot] = (works.program_there(spot), works.plan_there(spot), works.given_there(spot))
    return found


def end_of(base, script):
    """The dictionary from the spots at the end of a script on a new works to the tuples of what is there."""
    check_base(base)
    check_script(script)
    works = Works(base)
    played(works, script)
    return ends(works)


def shortened(base, script):
    """What is left of a script without the commands, from the last one on, without which its end is the same."""
    whole = end_of(base, script)
    left = list(script)
    for at in range(len(script) - 1, -1, -1):
        shorter = left[:at] + left[at + 1:]
        if end_of(base, shorter) == whole:
            left = shorter
    # a try never changes the end: so none is left
    return [copied_command(command) for command in left]
