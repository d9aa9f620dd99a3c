"""Programs, plans and feeds by the words of the document, found without the package: what tests hold it against."""

from functools import lru_cache
from itertools import product
from random import Random

from shiftfolds.programs import Program
from shiftfolds.rights import Base, kinds_base
from shiftfolds.typings import Kinds

from tests.folds import SIGN_TRIPLES, class_by_deeds, kind_of, mid_of, some_bases
from tests.helpers import stop_typing

WORDS = ["x", "y", "z", "w", "r", "s", "t", "u", "v", "aa", "ab", "ac"]
INPUTS = [("input", "x", "p"), ("input", "y", "p"), ("input", "z", "n"), ("input", "w", "p")]


def sign_base(word="right"):
    return Base(stop_typing(), SIGN_TRIPLES, word)


def even_base():
    even = Kinds({("e", "e"): "e", ("e", "o"): "o", ("o", "e"): "o", ("o", "o"): "e"})
    return kinds_base(even, [("e", "o", "o")], "right")


def long_program(base=None):
    return Program(base or sign_base(), INPUTS + [("fold", "t", ["x", "y", "z", "w"])])


def two_program(base=None):
    return Program(base or sign_base(), INPUTS + [("fold", "r", ["z", "w"]), ("fold", "t", ["x", "y", "r"])])


def things_of(lines, name, many):
    """How many things a name is put out to."""
    for word, other, told in lines:
        many[other] = 1 if word == "input" else sum(many[part] for part in told)
    return many[name]


def random_program(base, seed, longest=4, things=7, many=7):
    """A program of some lines, among them names used twice, folds of one name and lines that nothing hangs on."""
    chance, kinds = Random(seed), base.typed().kinds().names()
    lines, sizes, unused = [], {}, []
    for at in range(chance.choice([1, 2] + list(range(3, many + 1)) * 3)):
        name = WORDS[at]
        long = chance.choice([1, 2, 2, 3, 3, longest])
        names = [chance.choice(unused if unused and chance.random() < 0.4 else WORDS[:at]) for _ in range(long)] if at else []
        if not at or chance.random() < (0.6 if at < 3 else 0.1) or sum(sizes[part] for part in names) > things:
            lines.append(("input", name, chance.choice(kinds)))
            sizes[name] = 1
        else:
            lines.append(("fold", name, names))
            sizes[name] = sum(sizes[part] for part in names)
        unused = [part for part in unused + [name] if part not in names]
    return Program(base, lines)


@lru_cache(None)
def some_programs(many=60, longest=4, things=7):
    bases = [sign_base(), sign_base("left"), even_base()] + some_bases()[::3]
    return [random_program(bases[seed % len(bases)], seed, longest, things) for seed in range(many)]


@lru_cache(None)
def fed_programs(many=40):
    """Programs of a typing with several values of each kind, with few feeds."""
    found = []
    for seed in range(many * 4):
        program = random_program(sign_base(("right", "left")[seed % 2]), seed)
        if len([line for line in program.lines() if line[0] == "input"]) <= 3 and len(found) < many:
            found.append(program)
    return found


def folds_of(program):
    return {name: names for word, name, names in program.lines() if word == "fold"}


def inputs_of(program):
    return {name: kind for word, name, kind in program.lines() if word == "input"}


def kinds_by_words(program):
    kinds, made = program.base().typed().kinds(), {}
    for word, name, told in program.lines():
        made[name] = told if word == "input" else kind_of(kinds, [made[part] for part in told], 0, len(told))
    return made


def rows_of(program):
    made = kinds_by_words(program)
    return {name: [made[part] for part in names] for name, names in folds_of(program).items()}


def plain_by_words(size):
    return [(0, end) for end in range(2, size + 1)]


def put_out(program, name):
    """The names of the inputs that a name is put out to, and the grouping of these, by the words of [87]."""
    folds = folds_of(program)
    if name not in folds:
        return [name], []
    return side_by_side([put_out(program, part) for part in folds[name]])


def side_by_side(parts):
    names, blocks = [], []
    for at, (more, grouping) in enumerate(parts):
        blocks += [(first + len(names), end + len(names)) for first, end in grouping]
        names = names + more
        if at:
            blocks.append((0, len(names)))
    return names, sorted(blocks)


def plain_class(program, row):
    """ALL groupings of a row that are joined with the plain one."""
    base = program.base()
    return class_by_deeds(base.typed().kinds(), base.triples(), row, plain_by_words(len(row)))


def all_plans(program):
    """ALL plans of a program."""
    rows = rows_of(program)
    choices = [[list(each) for each in plain_class(program, row)] for row in rows.values()]
    return [dict(zip(rows, told)) for told in product(*choices)]


def some_plans(program, seed, many=4):
    """Some plans, the plain one first."""
    chance, rows = Random(seed), rows_of(program)
    found = [{name: plain_by_words(len(row)) for name, row in rows.items()}]
    for _ in range(many - 1):
        found.append({name: list(chance.choice(plain_class(program, row))) for name, row in rows.items()})
    return found


def all_feeds(program):
    inputs, holding = inputs_of(program), program.base().typed().holding()
    return [dict(zip(inputs, told)) for told in product(*[holding[kind] for kind in inputs.values()])]


def random_feed(program, seed):
    chance, holding = Random(seed), program.base().typed().holding()
    return {name: chance.choice(holding[kind]) for name, kind in inputs_of(program).items()}


def value_of_block(program, grouping, values, first, end):
    """The value of a block, or of a thing, by doing its blocks, parts first."""
    if end - first == 1:
        return values[first]
    mid = mid_of(grouping, (first, end))
    left, right = [value_of_block(program, grouping, values, *part) for part in ((first, mid), (mid, end))]
    return program.base().typed().operation().do(left, right)


def told_by_words(program, plan, given):
    """The values of the known names, and those of the blocks of known folds, block by block."""
    values, made = {}, {}
    for word, name, told in program.lines():
        if word == "input" and name in given:
            values[name] = given[name]
        if word == "fold" and all(part in values for part in told):
            things = [values[part] for part in told]
            values[name] = value_of_block(program, plan[name], things, 0, len(told))
            for first, end in plan[name]:
                made[(name, first, end)] = value_of_block(program, plan[name], things, first, end)
    return values, made


def results(program):
    """The results for ALL feeds, by the plain plan."""
    plan = some_plans(program, 0, 1)[0]
    last = program.lines()[-1][1]
    return [told_by_words(program, plan, feed)[0][last] for feed in all_feeds(program)]


def bent_texts(text, step=1):
    """Texts that are bent by one sign or by one line."""
    found = []
    for at in range(0, len(text) + 1, step):
        found.append(text[:at] + text[at + 1:])
        for sign in " ax\n0-=A\t":
            found.append(text[:at] + sign + text[at:])
            found.append(text[:at] + sign + text[at + 1:])
    lines = text.split("\n")
    for at in range(len(lines)):
        rest = lines[:at] + lines[at + 1:]
        found += ["\n".join(told) for told in [rest, lines[:at] + [lines[at]] + lines[at:], rest + [lines[at]], lines[:at]]]
        found.append("\n".join(lines[:at] + ["  " + lines[at]] + lines[at + 1:]))
    return [told for told in found if told != text] + [text + "\n", "\n" + text, text + " ", text.upper(), text + "\r"]
