"""A machine that does the blocks of a program's plan on hands: feeds, works, runs and traces."""

from shiftfolds.equals import block_values, inputs_at, inputs_number, steps_of_grouping
from shiftfolds.errors import InvalidBlock, InvalidInputs, InvalidLosses, InvalidName, InvalidValue
from shiftfolds.forms import is_ascending, is_one_of
from shiftfolds.groupings import inner_first, is_count_tuple, mids_of
from shiftfolds.hands import bar_numbers, check_hands, parts_at
from shiftfolds.lines import input_kinds, made_along, names_folded
from shiftfolds.programs import check_alike_inputs, check_plan, check_program


def is_feed_of(program, value):
    """Whether any object is a feed of what is known to be a program."""
    kinds = input_kinds(program.lines())
    if not isinstance(value, dict) or len(value) != len(kinds) or not all([name in value for name in kinds]):
        return False
    holding = program.base().typed().holding()
    return all([is_one_of(value[name], holding[kinds[name]]) for name in kinds])


def is_feed(program, value):
    """Whether any object is a feed of a program."""
    check_program(program)
    return is_feed_of(program, value)


def check_feed(program, feed):
    """Raises InvalidInputs unless an object is a feed of what is known to be a program."""
    if not is_feed_of(program, feed):
        raise InvalidInputs(feed)


def told_by(program, plan, given):
    """The tuple of the values of names and of those of works that values of some inputs tell by a plan.

    Both are dictionaries: of the names in the order of the lines, and of the works of folds of these alone.
    """
    table = program.base().typed().operation().table()
    values, made = {}, {}
    for word, name, told in program.lines():
        if word == "input":
            if name in given:
                values[name] = given[name]
        elif all([part in values for part in told]):
            blocks = block_values(table, steps_of_grouping(plan[name]), [values[part] for part in told])
            values[name] = blocks[(0, len(told))]
            for first, end in plan[name]:
                made[(name, first, end)] = blocks[(first, end)]
    return (values, made)


def values_by(program, plan, feed):
    """The dictionary from the names, in the order of the lines, to their values by a plan."""
    check_plan(program, plan)
    check_feed(program, feed)
    return told_by(program, plan, feed)[0]


def result_of(program, feed):
    """The value of the last line by the plain plan."""
    check_program(program)
    check_feed(program, feed)
    return result_with(program.base().typed().operation().table(), program.lines(), feed)


def works_of(program, plan):
    """The list of the works by a plan, those of one fold ascending."""
    return [(name, first, end) for name in names_folded(program.lines()) for first, end in plan[name]]


def works(program, plan):
    """The list of the works by a plan, by the lines, those of one fold ascending."""
    check_plan(program, plan)
    return works_of(program, plan)


def is_work(some, value):
    """Whether any object is one of some works."""
    # the counts come first: True and False would be found for 1 and 0
    return isinstance(value, tuple) and len(value) == 3 and is_count_tuple(value[1:], 2) and value in some


def root_name(folds, name):
    """The name that a name is, through folds of one name, of an input or of a longer fold."""
    at = name
    while at in folds and len(folds[at]) == 1:
        at = folds[at][0]
    return at


def parts_of(program, plan):
    """The dictionary from the works to the lists of what their parts are: works, or names of inputs.

    The works come by the lines, those of one fold inner ones first: so what a work needs is ahead of it.
    """
    folds = names_folded(program.lines())
    found = {}
    for name in folds:
        mids = mids_of(plan[name])
        for block in inner_first(plan[name]):
            parts = []
            for first, end in parts_at(block, mids[block]):
                root = root_name(folds, folds[name][first])
                if (first, end) in mids:
                    parts.append((name, first, end))
                elif root in folds:
                    parts.append((root, 0, len(folds[root])))
                else:
                    parts.append(root)
            found[(name, block[0], block[1])] = parts
    return found


def in_order(some, found):
    """The list of those of some works that are among others, or the keys of a dictionary."""
    return [work for work in some if work in found]


def needs_of(program, plan):
    """The dictionary from the works to the lists, in the order of the works, of those that they need.

    What a work needs is ahead of it there.
    """
    some, parts = works_of(program, plan), parts_of(program, plan)
    return {work: in_order(some, parts[work]) for work in parts}


def needs(program, plan, work):
    """The list of the works that a work needs, in the order of the works."""
    check_plan(program, plan)
    if not is_work(works_of(program, plan), work):
        raise InvalidBlock(work)
    return needs_of(program, plan)[work]


def distances_of(program, plan):
    """The dictionary from the works, in their order, to their distances."""
    needed = needs_of(program, plan)
    far = {work: 0 for work in works_of(program, plan)}
    for work in list(needed)[::-1]:
        # all that need this one were come to by now
        for other in needed[work]:
            far[other] = max(far[other], far[work] + 1)
    return far


def distances(program, plan):
    """The dictionary from the works, in their order, to their distances."""
    check_plan(program, plan)
    return distances_of(program, plan)


def is_step_list(some, value):
    """Whether any object is a list of works that stand in the order of some without doubles."""
    if not isinstance(value, list) or not all([is_work(some, work) for work in value]):
        return False
    return is_ascending([some.index(work) for work in value])


def is_run_of(program, plan, hands, value):
    """Whether any object is a run of what is known to be a program by a plan."""
    some, needed = works_of(program, plan), needs_of(program, plan)
    if not isinstance(value, list):
        return False
    done = {}
    for step in value:
        if not is_step_list(some, step) or not 1 <= len(step) <= hands:
            return False
        for work in step:
            if work in done or not all([other in done for other in needed[work]]):
                return False
        for work in step:
            done[work] = True
    return len(done) == len(some)


def is_run(program, plan, hands, value):
    """Whether any object is a run on so many hands."""
    check_plan(program, plan)
    check_hands(hands)
    return is_run_of(program, plan, hands, value)


def run_steps(program, plan, hands, losses):
    """The list of the lists of the works that the machine does in each step, until all are done."""
    some, needed, far = works_of(program, plan), needs_of(program, plan), distances_of(program, plan)
    done = {}
    steps = []
    while len(done) < len(some):
        ready = [work for work in some if work not in done and all([other in done for other in needed[work]])]
        taken = sorted(ready, key=lambda work: -far[work])[:hands]
        lost = losses[len(steps)] if len(steps) < len(losses) else []
        steps.append([work for work in in_order(some, taken) if work not in lost])
        for work in steps[-1]:
            done[work] = True
    return steps


def run_by(program, plan, hands, losses):
    """The list of the lists of the works that the machine does in each step if works are lost."""
    check_plan(program, plan)
    check_hands(hands)
    some = works_of(program, plan)
    if not isinstance(losses, list) or not all([is_step_list(some, lost) for lost in losses]):
        raise InvalidLosses(losses)
    return run_steps(program, plan, hands, losses)


def check_traced(program, plan, feed, hands):
    """Raises the error of the first of the four that is none."""
    check_plan(program, plan)
    check_feed(program, feed)
    check_hands(hands)


def trace(program, plan, feed, hands):
    """The list of the values of the works of each step of the machine's run without losses."""
    check_traced(program, plan, feed, hands)
    made = told_by(program, plan, feed)[1]
    return [{work: made[work] for work in step} for step in run_steps(program, plan, hands, [])]


def is_trace(program, plan, feed, hands, value):
    """Whether any object is the trace of any run."""
    check_traced(program, plan, feed, hands)
    some, made = works_of(program, plan), told_by(program, plan, feed)[1]
    if not isinstance(value, list):
        return False
    for step in value:
        if not isinstance(step, dict) or not all([is_work(some, work) for work in step]):
            return False
        if not all([step[work] == made[work] for work in step]):
            return False
    return is_run_of(program, plan, hands, [in_order(some, step) for step in value])


def steps_at_least(program, plan, hands):
    """The greatest number of steps below which distances let no run come."""
    check_plan(program, plan)
    check_hands(hands)
    return max(bar_numbers(list(distances_of(program, plan).values()), hands), default=0)


def steps_at_most(program, plan, hands):
    """The number of the machine's steps without losses."""
    check_plan(program, plan)
    check_hands(hands)
    return len(run_steps(program, plan, hands, []))


def edited(program, plan, feed, name, value):
    """The dictionary from the works that are done anew for another value of an input to their new values."""
    check_plan(program, plan)
    check_feed(program, feed)
    kinds = input_kinds(program.lines())
    if not is_one_of(name, kinds):
        raise InvalidName(name)
    if not is_one_of(value, program.base().typed().holding()[kinds[name]]):
        raise InvalidValue(value)
    before = told_by(program, plan, feed)
    behind = told_by(program, plan, {**feed, name: value})
    changed = {name: before[0][name] != behind[0][name]}
    anew = {}
    for work, parts in parts_of(program, plan).items():
        if any([changed.get(part, False) for part in parts]):
            anew[work] = behind[1][work]
            changed[work] = before[1][work] != behind[1][work]
    return {work: anew[work] for work in in_order(works_of(program, plan), anew)}


def result_with(table, lines, feed):
    """The value of the last of some lines, each fold grouped plainly, for values of their inputs."""
    return made_along(table, lines, feed)[lines[-1][1]]


def parting_feed(one, other):
    """A feed for which the results of two programs are unlike, None if there is none."""
    check_alike_inputs(one, other)
    typed = one.base().typed()
    table, holding = typed.operation().table(), typed.holding()
    lines, others = one.lines(), other.lines()
    kinds = input_kinds(lines)
    names, row = list(kinds), list(kinds.values())
    for number in range(inputs_number(holding, row)):
        feed = dict(zip(names, inputs_at(holding, row, number)))
        if result_with(table, lines, feed) != result_with(table, others, feed):
            return feed
    return None


def is_parting_feed(one, other, value):
    """Whether any object is a feed for which the results of two programs are unlike."""
    check_alike_inputs(one, other)
    if not is_feed_of(one, value):
        return False
    table = one.base().typed().operation().table()
    return result_with(table, one.lines(), value) != result_with(table, other.lines(), value)
