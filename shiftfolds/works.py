"""A works: programs at spots, with plans of them and values of their inputs, and all that was done to them."""

from shiftfolds.errors import (
    InvalidLog, InvalidName, InvalidSpot, InvalidValue, InvalidWorks, NothingToRedo, NothingToUndo, Refused, Unlike,
)
from shiftfolds.forms import is_count, is_one_of
from shiftfolds.lines import input_kinds, names_folded
from shiftfolds.machines import parts_of, told_by
from shiftfolds.programs import (
    check_plan, check_plan_prices, check_program, cheapest_plan, flattened, is_cheapest_plan, is_soonest_plan, merged,
    plain_plan, soonest_plan, trimmed,
)
from shiftfolds.rights import check_base

# The words of the commands of a log, with how many things stand behind each one.
LOGGED = {
    "put": 1, "take": 1, "give": 3, "drop": 2, "replan": 2, "cheapen": 2, "hasten": 1, "trim": 1, "merge": 1,
    "flatten": 1,
}


class Trial:
    """A block: when it is left, the works is as it was when the block was entered."""

    def __init__(self, works):
        self._works = works
        self._state = None
        self._past = None
        self._future = None

    def __enter__(self):
        works = self._works
        self._state = works._state
        self._past = works._past
        self._future = works._future
        return works

    def __exit__(self, kind, value, trace):
        works = self._works
        works._state = self._state
        works._past = self._past
        works._future = self._future


class Works:
    """A base and spots, each with a program, a plan of it, and values of some of its inputs.

    A state is a tuple of how many spots were put and of a dictionary from the spots to tuples (program, plan, given).
    The past is a list of tuples of a command and of the state ahead of it, the future one of those taken back and
    of the states behind them. Each of these is made anew when it changes: so a block, and a copy, just keep them.
    """

    def __init__(self, base):
        check_base(base)
        self._base = base
        self._state = (0, {})
        self._past = []
        self._future = []

    def put(self, program):
        """Puts a program, with the plain plan and no values, at a new spot, which is returned."""
        check_program(program)
        if program.base() != self._base:
            raise Unlike(program)
        spot, there = self._state
        self._make(("put", program), (spot + 1, {**there, spot: (program, plain_plan(program), {})}))
        return spot

    def take(self, spot):
        """Takes what is at a spot away."""
        self._there(spot)
        many, there = self._state
        self._make(("take", spot), (many, {other: there[other] for other in there if other != spot}))

    def spots(self):
        """The ascending list of the spots."""
        return list(self._state[1])

    def program_there(self, spot):
        """The program at a spot."""
        return self._there(spot)[0]

    def plan_there(self, spot):
        """The plan at a spot, in the order of the lines."""
        return copied_plan(self._there(spot)[1])

    def given_there(self, spot):
        """The dictionary from the inputs at a spot that have a value, in the order of the lines, to these."""
        given = self._there(spot)[2]
        return {name: given[name] for name in given}

    def give(self, spot, name, value):
        """Gives an input a value, and returns the list of the blocks that are done anew."""
        program, plan, given = self._there(spot)
        kinds = self._input_kinds(program, name)
        if not is_one_of(value, self._base.typed().holding()[kinds[name]]):
            raise InvalidValue(value)
        told = {**given, name: value}
        behind = {other: told[other] for other in kinds if other in told}
        self._exchange(("give", spot, name, value), spot, (program, plan, behind))
        return blocks_given(program, plan, given, behind)

    def drop(self, spot, name):
        """Takes the value of an input away."""
        program, plan, given = self._there(spot)
        self._input_kinds(program, name)
        if name not in given:
            raise Refused(name)
        behind = {other: given[other] for other in given if other != name}
        self._exchange(("drop", spot, name), spot, (program, plan, behind))

    def known(self, spot):
        """The dictionary from the known names at a spot, in the order of the lines, to their values."""
        program, plan, given = self._there(spot)
        return told_by(program, plan, given)[0]

    def value_there(self, spot, name):
        """The value of a known name at a spot."""
        program, plan, given = self._there(spot)
        if not is_one_of(name, [line[1] for line in program.lines()]):
            raise InvalidName(name)
        values = told_by(program, plan, given)[0]
        if name not in values:
            raise Refused(name)
        return values[name]

    def replan(self, spot, plan):
        """Puts another plan in the place of the one at a spot, and returns the list of the blocks done anew."""
        check_plan(self._there(spot)[0], plan)
        return self._replanned(("replan", spot), spot, plan)

    def cheapen(self, spot, prices):
        """Puts a cheapest plan in the place of the one at a spot, and returns the list of the blocks done anew."""
        program, plan, _ = self._there(spot)
        check_plan_prices(program, prices)
        told = {pair: prices[pair] for pair in sorted(prices)}
        best = plan if is_cheapest_plan(program, told, plan) else cheapest_plan(program, told)
        return self._replanned(("cheapen", spot, told), spot, best)

    def hasten(self, spot):
        """Puts a soonest plan in the place of the one at a spot, and returns the list of the blocks done anew."""
        program, plan, _ = self._there(spot)
        best = plan if is_soonest_plan(program, plan) else soonest_plan(program)
        return self._replanned(("hasten", spot), spot, best)

    def trim(self, spot):
        """Takes the lines away that the result at a spot does not hang on."""
        self._rewrite("trim", spot, trimmed(self._there(spot)[0]))

    def merge(self, spot):
        """Merges the folds at a spot that have the same names."""
        self._rewrite("merge", spot, merged(self._there(spot)[0]))

    def flatten(self, spot):
        """Puts the folds at a spot in that can be."""
        self._rewrite("flatten", spot, flattened(self._there(spot)[0]))

    def trial(self):
        """A block for `with`."""
        return Trial(self)

    def attempt(self, action):
        """Calls a function with the works itself in a block, and returns what it returns."""
        with self.trial() as works:
            return action(works)

    def copy(self):
        """An independent works that is the same in everything that its methods tell, and in no block."""
        made = Works(self._base)
        made._state = self._state
        made._past = self._past
        made._future = self._future
        return made

    def undo(self):
        """Takes back the last command."""
        if not self._past:
            raise NothingToUndo()
        command, ahead = self._past[-1]
        self._future = self._future + [(command, self._state)]
        self._past = self._past[:-1]
        self._state = ahead

    def redo(self):
        """Makes the command again that was taken back last."""
        if not self._future:
            raise NothingToRedo()
        command, behind = self._future[-1]
        self._past = self._past + [(command, self._state)]
        self._future = self._future[:-1]
        self._state = behind

    def log(self):
        """The list of the commands that are not taken back, the eldest first."""
        return [copied_command(command) for command, _ in self._past]

    def _there(self, spot):
        if not is_count(spot) or spot not in self._state[1]:
            raise InvalidSpot(spot)
        return self._state[1][spot]

    def _input_kinds(self, program, name):
        kinds = input_kinds(program.lines())
        if not is_one_of(name, kinds):
            raise InvalidName(name)
        return kinds

    def _make(self, command, state):
        self._past = self._past + [(command, self._state)]
        self._future = []
        self._state = state

    def _exchange(self, command, spot, told):
        many, there = self._state
        self._make(command, (many, {**there, spot: told}))

    def _replanned(self, command, spot, plan):
        program, elder, given = self._there(spot)
        # in the order of the lines, whatever the order of the plan was
        behind = {name: list(plan[name]) for name in elder}
        logged = (*command, behind) if command[0] == "replan" else command
        self._exchange(logged, spot, (program, behind, given))
        return blocks_replanned(program, elder, behind, given)

    def _rewrite(self, word, spot, made):
        program, plan, given = self._there(spot)
        if made == program:
            raise Refused(spot)
        kinds = input_kinds(made.lines())
        behind = {name: given[name] for name in given if name in kinds}
        self._exchange((word, spot), spot, (made, plan_kept(program, plan, made), behind))


def copied_plan(plan):
    """The same plan, its lists new ones."""
    return {name: list(plan[name]) for name in plan}


def copied_command(command):
    """The same command of a log, its plan or prices new ones."""
    if command[0] == "replan":
        return ("replan", command[1], copied_plan(command[2]))
    if command[0] == "cheapen":
        return ("cheapen", command[1], {pair: command[2][pair] for pair in command[2]})
    return command


def plan_kept(program, plan, made):
    """The plan of what a program was made to: groupings of folds with the same names stay, others are plain."""
    elder = names_folded(program.lines())
    found = plain_plan(made)
    for name, names in names_folded(made.lines()).items():
        if elder.get(name, []) == names:
            found[name] = plan[name]
    return found


def short_first(blocks):
    """The list of some blocks, shorter ones first, those of one length ascending."""
    return sorted(blocks, key=lambda block: (block[1] - block[0], block[0]))


def all_told(program, plan, given):
    """The dictionary from known names, and from the works of known folds, to their values."""
    told, made = told_by(program, plan, given)
    for work in made:
        told[work] = made[work]
    return told


def blocks_given(program, plan, ahead, behind):
    """The list of the tuples of a fold's name and of a block that is done anew for other values of inputs."""
    before, after = all_told(program, plan, ahead), all_told(program, plan, behind)
    parts = parts_of(program, plan)
    found = []
    for name in plan:
        for first, end in short_first(plan[name]) if name in after else []:
            if name not in before or any([before[part] != after[part] for part in parts[(name, first, end)]]):
                found.append((name, (first, end)))
    return found


def blocks_replanned(program, elder, plan, given):
    """The list of the tuples of a fold's name and of a block that is done anew by another plan."""
    values = told_by(program, plan, given)[0]
    found = []
    for name in plan:
        new = [block for block in plan[name] if block not in elder[name]]
        for first, end in short_first(plan[name]) if name in values else []:
            if any([first <= one and other <= end for one, other in new]):
                found.append((name, (first, end)))
    return found


def check_works(works):
    """Raises InvalidWorks for any object that is no works."""
    if not isinstance(works, Works):
        raise InvalidWorks(works)


def is_log(value):
    """Whether any object is a list of tuples of a word of a command and of as many things as stand behind it."""
    if not isinstance(value, list):
        return False
    for command in value:
        if not isinstance(command, tuple) or not command or not is_one_of(command[0], list(LOGGED)):
            return False
        if len(command) != 1 + LOGGED[command[0]]:
            return False
    return True


def carry_out(works, command):
    """Makes a command of a log on a works, and returns what the method of its name returns."""
    word, *things = command
    if word == "put":
        return works.put(*things)
    if word == "take":
        return works.take(*things)
    if word == "give":
        return works.give(*things)
    if word == "drop":
        return works.drop(*things)
    if word == "replan":
        return works.replan(*things)
    if word == "cheapen":
        return works.cheapen(*things)
    if word == "hasten":
        return works.hasten(*things)
    if word == "trim":
        return works.trim(*things)
    if word == "merge":
        return works.merge(*things)
    return works.flatten(*things)


def replayed(works, log):
    """A copy of a works on which the commands of a log were then made."""
    check_works(works)
    if not is_log(log):
        raise InvalidLog(log)
    made = works.copy()
    for command in log:
        carry_out(made, command)
    return made
