"""Lines of programs: their forms and texts, and what is told of them and made of them by form."""

from shiftfolds.forms import is_list_of, is_one_of, is_word
from shiftfolds.groupings import plain_blocks


def is_line(kinds, ahead, value):
    """Whether any object is a line of some kinds that may stand behind lines with some names."""
    if not isinstance(value, tuple) or len(value) != 3 or not is_word(value[1]) or value[1] in ahead:
        return False
    if value[0] == "input":
        return is_one_of(value[2], kinds)
    return value[0] == "fold" and is_list_of(value[2], ahead) and len(value[2]) > 0


def are_lines(kinds, value):
    """Whether any object is a list of lines of some kinds of which a program is made."""
    if not isinstance(value, list) or not value:
        return False
    ahead = {}
    for line in value:
        if not is_line(kinds, ahead, line):
            return False
        ahead[line[1]] = True
    return True


def copied_lines(lines):
    """The same lines, their lists new ones."""
    return [(word, name, list(told) if word == "fold" else told) for word, name, told in lines]


def input_kinds(lines):
    """The dictionary from the names of the inputs, in the order of the lines, to their kinds."""
    return {name: told for word, name, told in lines if word == "input"}


def names_folded(lines):
    """The dictionary from the names of the folds, in the order of the lines, to the lists of their names."""
    return {name: told for word, name, told in lines if word == "fold"}


def made_along(table, lines, start):
    """The dictionary from the names of lines, in their order, to what they make by a table, inputs as they are told."""
    found = {}
    for word, name, told in lines:
        if word == "input":
            found[name] = start[name]
        else:
            made = found[told[0]]
            for part in told[1:]:
                made = table[(made, found[part])]
            found[name] = made
    return found


def lines_hung_on(lines):
    """The lines that the last one hangs on, it too."""
    wanted = {lines[-1][1]: True}
    found = []
    for line in lines[::-1]:
        if line[1] in wanted:
            found.append(line)
            for part in line[2] if line[0] == "fold" else []:
                wanted[part] = True
    return found[::-1]


def block_apart(size, first, end):
    """The grouping of so many things with a stretch as a block grouped plainly, and plain otherwise."""
    inside = [(first, at) for at in range(first + 2, end + 1)]
    around = [block for block in plain_blocks(size) if block[1] <= first or block[1] >= end]
    return sorted(set(inside + around))


def expanded_lines(lines):
    """The tuple of the list of inputs' names that the last line is put out to, and of the grouping of these."""
    found = {}
    for word, name, told in lines_hung_on(lines):
        if word == "input":
            found[name] = ([name], [])
        else:
            found[name] = side_by_side([found[part] for part in told])
    return found[lines[-1][1]]


def side_by_side(parts):
    """The tuple of all names and of the grouping of some such tuples, one behind the other, grouped plainly."""
    names, blocks = [], []
    for at, (more, grouping) in enumerate(parts):
        moved = len(names)
        names = names + more
        blocks.extend([(first + moved, end + moved) for first, end in grouping])
        if at > 0:
            blocks.append((0, len(names)))
    return (names, sorted(blocks))


def places_of(lines, name):
    """The list of the tuples of a fold's name and of a place of its row at which a name stands."""
    found = []
    for fold, names in names_folded(lines).items():
        found.extend([(fold, at) for at, part in enumerate(names) if part == name])
    return found


def lines_put_in(lines, name, fold, place):
    """The lines with the names of a fold in its place in another fold, and without its own line."""
    inner = names_folded(lines)[name]
    found = []
    for line in lines:
        if line[1] == fold:
            found.append(("fold", fold, line[2][:place] + inner + line[2][place + 1:]))
        elif line[1] != name:
            found.append(line)
    return found


def lines_taken_out(lines, name, first, end, newer):
    """The lines with the names of a stretch of a fold's row in a fold of their own, directly ahead of it."""
    found = []
    for line in lines:
        if line[1] == name:
            found.append(("fold", newer, line[2][first:end]))
            found.append(("fold", name, line[2][:first] + [newer] + line[2][end:]))
        else:
            found.append(line)
    return found


def merged_lines(lines):
    """The lines without those folds, but the last line, whose names are those of an earlier one that stayed."""
    known, sent = {}, {}
    found = []
    for word, name, told in lines:
        if word == "input":
            found.append((word, name, told))
        else:
            names = [sent.get(part, part) for part in told]
            if tuple(names) in known and name != lines[-1][1]:
                sent[name] = known[tuple(names)]
            else:
                found.append((word, name, names))
                known.setdefault(tuple(names), name)
    return found


def lines_text(lines):
    """The text of lines."""
    return "\n".join([" ".join([word, name] + (told if word == "fold" else [told])) for word, name, told in lines])


def read_lines(kinds, text):
    """The lines of some kinds that have a text, None if there are none."""
    found = []
    for row in text.split("\n"):
        pieces = row.split(" ")
        if pieces[0] == "fold" and len(pieces) > 2:
            found.append(("fold", pieces[1], pieces[2:]))
        else:
            found.append(tuple(pieces))
    return found if are_lines(kinds, found) else None
