"""Programs of several folds, what they may be rewritten to, and plans that tell how each fold is grouped."""

from shiftfolds.bests import best_grouping, grouping_value, is_of_class, sums_rule
from shiftfolds.errors import (
    InvalidBlock, InvalidName, InvalidPlan, InvalidPrices, InvalidProgram, InvalidText, Refused, Unlike,
)
from shiftfolds.forms import is_count, is_one_of, is_word
from shiftfolds.groupings import plain_blocks
from shiftfolds.lines import (
    are_lines, block_apart, copied_lines, expanded_lines, input_kinds, lines_hung_on, lines_put_in, lines_taken_out,
    lines_text, made_along, merged_lines, names_folded, places_of, read_lines,
)
from shiftfolds.prices import is_prices_of, price_cost
from shiftfolds.rights import check_base
from shiftfolds.stretches import stretches_of


class Program:
    """Lines, under a base, that tell inputs and folds of what lines ahead make."""

    def __init__(self, base, lines):
        check_base(base)
        if not are_lines(base.typed().kinds().names(), lines):
            raise InvalidProgram(lines)
        self._base = base
        self._lines = copied_lines(lines)

    def base(self):
        """The base."""
        return self._base

    def lines(self):
        """The list of the lines."""
        return copied_lines(self._lines)

    def __eq__(self, other):
        return isinstance(other, Program) and self._base == other._base and self._lines == other._lines


def check_program(program):
    """Raises InvalidProgram for any object that is no program."""
    if not isinstance(program, Program):
        raise InvalidProgram(program)


def made_by(program):
    """The dictionary from the names of a program, in the order of the lines, to the kinds that they make."""
    lines = program.lines()
    return made_along(program.base().typed().kinds().table(), lines, input_kinds(lines))


def kind_made(program, name):
    """The kind that a name makes."""
    check_program(program)
    made = made_by(program)
    if not is_one_of(name, made):
        raise InvalidName(name)
    return made[name]


def trimmed(program):
    """The program of those lines alone that the result hangs on."""
    check_program(program)
    return Program(program.base(), lines_hung_on(program.lines()))


def expanded(program):
    """The tuple of the list of the inputs' names, as often as each one comes, and of the grouping of them."""
    check_program(program)
    return expanded_lines(program.lines())


def check_alike_inputs(one, other):
    """Raises the error of the first of two programs that is none, or that has not the base and inputs of the other."""
    check_program(one)
    check_program(other)
    if one.base() != other.base() or input_kinds(one.lines()) != input_kinds(other.lines()):
        raise Unlike(other)


def surely_alike(one, other):
    """Whether two programs are put out to the same inputs in groupings that are joined by the base."""
    check_alike_inputs(one, other)
    names, grouping = expanded_lines(one.lines())
    others, other_grouping = expanded_lines(other.lines())
    return names == others and are_joined_by(one, names, grouping, other_grouping)


def are_joined_by(program, names, one, other):
    """Whether two groupings of the row of some names of a program are joined by its base."""
    made = made_by(program)
    stretches = stretches_of(program.base(), [made[name] for name in names])
    return stretches.told(one) == stretches.told(other)


def can_be_apart(program, names, first, end):
    """Whether the plain grouping of some names is joined with the one with a stretch as a block grouped plainly."""
    return are_joined_by(program, names, plain_blocks(len(names)), block_apart(len(names), first, end))


def place_to_put_in(program, name):
    """The tuple of a fold's name and of the place in its row at which a fold can be put in, None if it cannot be."""
    lines = program.lines()
    folds, places = names_folded(lines), places_of(lines, name)
    if len(places) != 1:
        return None
    fold, at = places[0]
    longer = folds[fold][:at] + folds[name] + folds[fold][at + 1:]
    return (fold, at) if can_be_apart(program, longer, at, at + len(folds[name])) else None


def is_inner_fold(program, name):
    """Whether any object is the name of a fold that is not the last line."""
    lines = program.lines()
    return is_one_of(name, names_folded(lines)) and name != lines[-1][1]


def inlined(program, name):
    """The program with a fold's names in its place and without its line."""
    check_program(program)
    if not is_inner_fold(program, name):
        raise InvalidName(name)
    found = place_to_put_in(program, name)
    if found is None:
        raise Refused(name)
    return Program(program.base(), lines_put_in(program.lines(), name, found[0], found[1]))


def first_put_in(program):
    """The program with the first fold put in that can be, None if none can be."""
    lines = program.lines()
    for name in names_folded(lines[:-1]):
        found = place_to_put_in(program, name)
        if found is not None:
            return Program(program.base(), lines_put_in(lines, name, found[0], found[1]))
    return None


def flattened(program):
    """The program with the first fold put in that can be, then again, till none can be."""
    check_program(program)
    found, further = program, first_put_in(program)
    while further is not None:
        found, further = further, first_put_in(further)
    return found


def is_stretch_within(size, first, end):
    """Whether any two objects are a stretch of two things at least of so many and not all of them."""
    if not is_count(first) or not is_count(end):
        return False
    return first + 2 <= end <= size and end - first < size


def taken_out(program, name, first, end, newer):
    """The program with the names of a stretch of a fold's row in a fold of their own."""
    check_program(program)
    folds = names_folded(program.lines())
    if not is_one_of(name, folds):
        raise InvalidName(name)
    if not is_stretch_within(len(folds[name]), first, end):
        raise InvalidBlock((first, end))
    if not is_word(newer) or newer in made_by(program):
        raise InvalidName(newer)
    if not can_be_apart(program, folds[name], first, end):
        raise Refused((first, end))
    return Program(program.base(), lines_taken_out(program.lines(), name, first, end, newer))


def merged(program):
    """The program without those folds, but the last line, whose names are those of an earlier one that stayed."""
    check_program(program)
    return Program(program.base(), merged_lines(program.lines()))


def fold_rows(program):
    """The dictionary from the names of the folds, in the order of the lines, to their rows."""
    made = made_by(program)
    folds = names_folded(program.lines())
    return {name: [made[part] for part in folds[name]] for name in folds}


def plain_plan(program):
    """The plan of the plain groupings."""
    check_program(program)
    return {name: plain_blocks(len(names)) for name, names in names_folded(program.lines()).items()}


def is_plan_of(program, value):
    """Whether any object is a plan of what is known to be a program."""
    rows = fold_rows(program)
    if not isinstance(value, dict) or len(value) != len(rows) or not all([name in value for name in rows]):
        return False
    return all([is_joined_plain(program, rows[name], value[name]) for name in rows])


def plain_class(program, row):
    """The tuple of the classes of the stretches of a row and of that of its plain grouping."""
    stretches = stretches_of(program.base(), row)
    return (stretches, stretches.whole(plain_blocks(len(row))))


def is_joined_plain(program, row, value):
    """Whether any object is a grouping of a row that is joined with the plain one."""
    stretches, top = plain_class(program, row)
    return is_of_class(stretches, top, value)


def best_plain(program, row, rule):
    """A grouping of a row with the least value by a rule of those that are joined with the plain one."""
    stretches, top = plain_class(program, row)
    return best_grouping(stretches, top, rule)


def is_plan(program, value):
    """Whether any object is a plan."""
    check_program(program)
    return is_plan_of(program, value)


def check_plan(program, plan):
    """Raises the error of the first of the two that is none."""
    check_program(program)
    if not is_plan_of(program, plan):
        raise InvalidPlan(plan)


def check_plan_prices(program, prices):
    """Raises InvalidPrices unless an object is prices of the kinds of a program."""
    if not is_prices_of(program.base().typed().kinds().names(), prices):
        raise InvalidPrices(prices)


def price_rules(program, prices):
    """The dictionary from the names of the folds to the rules by which values are prices of their groupings."""
    rows = fold_rows(program)
    return {name: sums_rule(price_cost(program.base(), rows[name], prices)) for name in rows}


def price_by(program, plan, prices):
    """What the groupings of a plan cost together."""
    rules = price_rules(program, prices)
    return sum([grouping_value(plan[name], rules[name]) for name in rules])


def plan_price(program, plan, prices):
    """What the groupings of a plan cost together."""
    check_plan(program, plan)
    check_plan_prices(program, prices)
    return price_by(program, plan, prices)


def cheapest_plan(program, prices):
    """A plan that costs as little as can be."""
    check_program(program)
    check_plan_prices(program, prices)
    rows, rules = fold_rows(program), price_rules(program, prices)
    return {name: best_plain(program, rows[name], rules[name]) for name in rows}


def is_cheapest_plan(program, prices, value):
    """Whether any object is a plan that costs as little as can be."""
    least = price_by(program, cheapest_plan(program, prices), prices)
    return is_plan_of(program, value) and price_by(program, value, prices) == least


def level_rule(things):
    """The rule by which values are levels, of the levels of the things."""
    def level(first, mid, end, left, right):
        ahead = things[first] if mid - first == 1 else left
        return 1 + max(ahead, things[mid] if end - mid == 1 else right)
    return level


def level_of(things, grouping):
    """The level of a grouping of things with some levels."""
    return things[0] if len(things) == 1 else grouping_value(grouping, level_rule(things))


def levels_by(program, plan):
    """The dictionary from the names, in the order of the lines, to their levels by a plan."""
    found = {}
    for word, name, told in program.lines():
        found[name] = 0 if word == "input" else level_of([found[part] for part in told], plan[name])
    return found


def levels(program, plan):
    """The dictionary from the names, in the order of the lines, to their levels by a plan."""
    check_plan(program, plan)
    return levels_by(program, plan)


def soonest_plan(program):
    """A plan by which the result's level, and that of EVERY name, is as low as can be."""
    check_program(program)
    rows = fold_rows(program)
    plan, found = {}, {}
    for word, name, told in program.lines():
        found[name] = 0
        if word == "fold":
            # no block comes later for parts that come sooner: so the lowest levels of the names are the best ones
            things = [found[part] for part in told]
            plan[name] = best_plain(program, rows[name], level_rule(things))
            found[name] = level_of(things, plan[name])
    return plan


def result_level(program, plan):
    """The level of the result by a plan."""
    return levels_by(program, plan)[program.lines()[-1][1]]


def is_soonest_plan(program, value):
    """Whether any object is a plan by which the result's level is as low as can be."""
    check_program(program)
    return is_plan_of(program, value) and result_level(program, value) == result_level(program, soonest_plan(program))


def program_text(program):
    """The text of a program."""
    check_program(program)
    return lines_text(program.lines())


def read_program(base, text):
    """The program of a base that has a text."""
    check_base(base)
    lines = None
    if isinstance(text, str):
        lines = read_lines(base.typed().kinds().names(), text)
    if lines is None:
        raise InvalidText(text)
    return Program(base, lines)
