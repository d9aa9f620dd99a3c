"""Section 18: a works."""

import unittest
from random import Random

from shiftfolds.errors import (
    FoldError, InvalidBase, InvalidLog, InvalidName, InvalidPlan, InvalidPrices, InvalidProgram, InvalidSpot,
    InvalidValue, InvalidWorks, NothingToRedo, NothingToUndo, Refused, Unlike,
)
from shiftfolds.programs import Program, flattened, is_cheapest_plan, is_plan, is_soonest_plan, merged, plain_plan, trimmed
from shiftfolds.rights import Base, kinds_base
from shiftfolds.works import Works, replayed

from tests.folds import SIGN_TRIPLES, all_triples, mid_of
from tests.helpers import signs, snapshot, stop_typing, strange_folds, strange_objects
from tests.programs import (
    INPUTS, folds_of, inputs_of, long_program, random_program, sign_base, some_plans, told_by_words, two_program,
)
from tests.test_prices import flat_prices, some_prices
from tests.test_programs import NO_NAMES, of_lines

HALVES = [(0, 2), (0, 4), (2, 4)]
NO_SPOTS = [None, True, False, -1, 7, "0", [0], (0,), {}, "", 10 ** 30]
PRICES = {pair: (0, 1, 0) for pair in signs().table()}


def told_of(works):
    """All that the methods of a works tell."""
    found = [works.spots(), works.log()]
    for spot in works.spots():
        found.append([works.program_there(spot).lines(), works.plan_there(spot), works.given_there(spot), works.known(spot)])
        for line in works.program_there(spot).lines():
            try:
                found.append(works.value_there(spot, line[1]))
            except Refused as error:
                found.append(("refused", error.value))
    return snapshot(found)


def all_told(works):
    """All that the methods tell, what can be undone and made again, too."""
    found, copy = [told_of(works)], works.copy()
    for call in (copy.undo, copy.redo):
        try:
            while True:
                call()
                found.append(told_of(copy))
        except (NothingToUndo, NothingToRedo):
            pass
    return found


def anew_by_words(program, plan, ahead, behind):
    """What a given value does anew, by doing all blocks before and behind."""
    before, made = told_by_words(program, plan, ahead)
    after, new_made = told_by_words(program, plan, behind)
    found = []
    for name, names in folds_of(program).items():
        if name not in after:
            continue
        for first, end in sorted(plan[name], key=lambda block: (block[1] - block[0], block[0])):
            mid, changed = mid_of(plan[name], (first, end)), name not in before
            for one, other in ((first, mid), (mid, end)):
                if not changed:
                    told = [
                        each[(name, one, other)] if other - one > 1 else values[names[one]]
                        for each, values in ((made, before), (new_made, after))
                    ]
                    changed = told[0] != told[1]
            if changed:
                found.append((name, (first, end)))
    return found


def replanned_by_words(program, elder, plan, given):
    """What another plan does anew."""
    known, found = told_by_words(program, plan, given)[0], []
    for name in folds_of(program):
        if name in known:
            new = set(plan[name]) - set(elder[name])
            for first, end in sorted(plan[name], key=lambda block: (block[1] - block[0], block[0])):
                if any(first <= one and other <= end for one, other in new):
                    found.append((name, (first, end)))
    return found


class Model:
    """A works by the words of the document, all of it made anew at each command."""

    def __init__(self, base):
        self.base, self.state, self.past, self.future = base, (0, {}), [], []

    def change(self, command, state):
        self.past, self.future, self.state = self.past + [(command, self.state)], [], state

    def put_there(self, command, spot, told):
        self.change(command, (self.state[0], {**self.state[1], spot: told}))

    def carry_out(self, command, works):
        """What is returned, or the word of the error; `works` has made the command already."""
        word, *things = command
        many, there = self.state
        if word == "undo":
            if not self.past:
                return "NothingToUndo"
            self.future, self.state, self.past = self.future + [(self.past[-1][0], self.state)], self.past[-1][1], self.past[:-1]
            return None
        if word == "redo":
            if not self.future:
                return "NothingToRedo"
            self.past, self.state, self.future = self.past + [(self.future[-1][0], self.state)], self.future[-1][1], self.future[:-1]
            return None
        if word == "put":
            if things[0].base() != self.base:
                return "Unlike"
            plan = some_plans(things[0], 0, 1)[0]
            self.change(command, (many + 1, {**there, many: (things[0], plan, {})}))
            return many
        if things[0] not in there:
            return "InvalidSpot"
        if word == "take":
            self.change(command, (many, {spot: told for spot, told in there.items() if spot != things[0]}))
            return None
        return self.at_spot(command, works, *there[things[0]])

    def at_spot(self, command, works, program, plan, given):
        word, spot, *things = command
        inputs, holding = inputs_of(program), self.base.typed().holding()
        if word in ("give", "drop"):
            if things[0] not in inputs:
                return "InvalidName"
            if word == "drop":
                if things[0] not in given:
                    return "Refused"
                self.put_there(command, spot, (program, plan, {name: given[name] for name in given if name != things[0]}))
                return None
            if things[1] not in holding[inputs[things[0]]]:
                return "InvalidValue"
            behind = {name: {**given, things[0]: things[1]}[name] for name in inputs if name in given or name == things[0]}
            self.put_there(command, spot, (program, plan, behind))
            return anew_by_words(program, plan, given, behind)
        if word in ("replan", "cheapen", "hasten"):
            return self.replan(command, works, program, plan, given)
        made = {"trim": trimmed, "merge": merged, "flatten": flattened}[word](program)
        if made == program:
            return "Refused"
        folds, told = folds_of(program), {}
        for name, names in folds_of(made).items():
            told[name] = plan[name] if folds.get(name) == names else [(0, end) for end in range(2, len(names) + 1)]
        self.put_there(command, spot, (made, told, {name: given[name] for name in given if name in inputs_of(made)}))
        return None

    def replan(self, command, works, program, plan, given):
        word, spot, *things = command
        if word == "replan":
            if not is_plan(program, things[0]):
                return "InvalidPlan"
            behind = {name: things[0][name] for name in plan}
            command = (word, spot, behind)
        else:
            behind = works.plan_there(spot)
            judge = (lambda value: is_cheapest_plan(program, things[0], value)) if word == "cheapen" else (
                lambda value: is_soonest_plan(program, value)
            )
            assert judge(behind) and (behind == plan or not judge(plan))
            if word == "cheapen":
                command = (word, spot, {pair: things[0][pair] for pair in sorted(things[0])})
        self.put_there(command, spot, (program, behind, given))
        return replanned_by_words(program, plan, behind, given)

    def check(self, test, works):
        test.assertEqual(works.spots(), list(self.state[1]))
        test.assertEqual(snapshot(works.log()), snapshot([command for command, _ in self.past]))
        for spot, (program, plan, given) in self.state[1].items():
            test.assertTrue(works.program_there(spot) == program)
            test.assertEqual(list(works.plan_there(spot).items()), [(name, list(plan[name])) for name in folds_of(program)])
            test.assertEqual(list(works.given_there(spot).items()), [(name, given[name]) for name in inputs_of(program) if name in given])
            values = told_by_words(program, plan, given)[0]
            test.assertEqual(list(works.known(spot).items()), list(values.items()))


def make(works, command):
    """Makes a command by the method of its name; the word of the error if one is raised."""
    try:
        return getattr(works, command[0])(*command[1:])
    except FoldError as error:
        return type(error).__name__


def with_double(program, chance):
    """The program, sometimes with one of its folds once more."""
    lines = program.lines()
    folds = [line for line in lines[:-1] if line[0] == "fold"]
    if not folds or chance.random() < 0.5:
        return program
    line = chance.choice(folds)
    return Program(program.base(), lines[:-1] + [("fold", "double", line[2]), ("fold", "last", ["double", line[1]]), lines[-1]])


def random_command(works, base, chance):
    """A command for a works, mostly one that can be taken."""
    spots = works.spots()
    word = chance.choice(["put", "give", "give", "give", "give", "drop", "replan", "cheapen", "hasten", "trim", "merge", "flatten", "take", "undo", "redo"])
    if word in ("undo", "redo"):
        return (word,)
    if word == "put" or not spots:
        other = sign_base("left") if chance.random() < 0.1 else base
        return ("put", with_double(random_program(other, chance.randrange(10 ** 6), 4, 8, 7), chance))
    spot = chance.choice(spots + [9] if chance.random() < 0.2 else spots)
    if spot not in spots:
        return ("take", spot)
    program = works.program_there(spot)
    inputs = inputs_of(program)
    name = chance.choice(list(inputs) + [program.lines()[-1][1]])
    if word == "give":
        value = chance.choice(base.typed().holding()[inputs[name]] if name in inputs and chance.random() < 0.9 else ["m", "q", "x"])
        return (word, spot, name, value)
    if word == "drop":
        return (word, spot, name)
    if word == "replan":
        plans = some_plans(program, chance.randrange(9), 3)
        return (word, spot, chance.choice(plans + [{"nothing": []}]))
    if word == "cheapen":
        return (word, spot, some_prices(base, chance.randrange(9)))
    return (word, spot)


class ExamplesTest(unittest.TestCase):
    def test_stop(self):
        works, long = Works(sign_base()), long_program()
        self.assertEqual([works.put(long), works.give(0, "x", "q"), works.give(0, "y", "qq"), works.give(0, "z", "mm")], [0, [], [], []])
        self.assertEqual(list(works.known(0).items()), [("x", "q"), ("y", "qq"), ("z", "mm")])
        self.assertEqual(works.give(0, "w", "q"), [("t", (0, 2)), ("t", (0, 3)), ("t", (0, 4))])
        self.assertEqual(works.value_there(0, "t"), "q")
        self.assertEqual(works.replan(0, {"t": HALVES}), [("t", (2, 4)), ("t", (0, 4))])
        self.assertEqual([works.give(0, "z", "m"), works.value_there(0, "t")], [[("t", (2, 4)), ("t", (0, 4))], "qq"])
        self.assertEqual(works.give(0, "y", "q"), [("t", (0, 2))])
        two = Program(sign_base(), long.lines()[:4] + [("fold", "r", ["z", "w"]), ("fold", "t", ["x", "y", "r"])])
        self.assertEqual([works.put(two), works.give(1, "z", "m"), works.give(1, "w", "q")], [1, [], [("r", (0, 2))]])
        self.assertEqual([works.known(1), works.plan_there(1)], [{"z": "m", "w": "q", "r": "o"}, {"r": [(0, 2)], "t": [(0, 2), (0, 3)]}])
        self.assertEqual([works.flatten(1), works.program_there(1) == long, works.given_there(1)], [None, True, {"z": "m", "w": "q"}])
        self.assertEqual([works.undo(), works.drop(0, "w"), list(works.known(0)), len(works.log())], [None, None, ["x", "y", "z"], 12])
        self.assertEqual(replayed(Works(sign_base()), works.log()).spots(), [0, 1])


class ModelTest(unittest.TestCase):
    def test_random_commands(self):
        said = {}
        for seed in range(160):
            chance, base = Random(seed), sign_base()
            works, model = Works(base), Model(base)
            for _ in range(30):
                command = random_command(works, base, chance)
                before = snapshot(command)
                told = make(works, command)
                self.assertEqual(snapshot(command), before)
                self.assertEqual(told, model.carry_out(command, works), command)
                model.check(self, works)
                key = (command[0], told if isinstance(told, str) else None)
                said[key] = said.get(key, 0) + 1
        for word in ["put", "take", "give", "drop", "replan", "cheapen", "hasten", "trim", "merge", "flatten", "undo", "redo"]:
            self.assertTrue(said.get((word, None), 0) > 10, (word, said))
        for key in [
            ("put", "Unlike"), ("take", "InvalidSpot"), ("give", "InvalidName"), ("give", "InvalidValue"), ("drop", "Refused"),
            ("replan", "InvalidPlan"), ("trim", "Refused"), ("flatten", "Refused"), ("undo", "NothingToUndo"), ("redo", "NothingToRedo"),
        ]:
            self.assertTrue(said.get(key, 0) > 3, key)

    def test_logs_played_on_a_new_works_and_on_one_that_has_something(self):
        for seed in range(40):
            chance, base = Random(seed), sign_base()
            works = Works(base)
            for _ in range(25):
                make(works, random_command(works, base, chance))
            self.assertEqual(told_of(replayed(Works(base), works.log())), told_of(works))
            other = Works(base)
            for _ in range(8):
                make(other, random_command(other, base, chance))
            if not [command for command in works.log() if command[0] == "put"] or not other.spots() == []:
                continue
            kept, many = all_told(other), len([command for command in other.log() if command[0] == "put"])
            moved = [command if command[0] == "put" else (command[0], command[1] + many) + command[2:] for command in works.log()]
            made = replayed(other, moved)
            self.assertEqual(made.spots(), [spot + many for spot in works.spots()])
            for spot in works.spots():
                self.assertEqual(made.known(spot + many), works.known(spot))
            self.assertEqual(all_told(other), kept)

    def test_blocks_leave_all_as_it_was(self):
        for seed in range(50):
            chance, base = Random(seed), sign_base()
            works = Works(base)
            for _ in range(14):
                make(works, random_command(works, base, chance))
            before = all_told(works)
            with works.trial() as tried:
                self.assertIs(tried, works)
                for _ in range(6):
                    make(works, random_command(works, base, chance))
                inner = all_told(works)
                with tried.trial():
                    for _ in range(9):
                        make(tried, random_command(works, base, chance))
                    for _ in range(20):
                        make(works, ("undo",))
                self.assertEqual(all_told(works), inner)
                copy = works.copy()
            self.assertEqual(all_told(works), before)
            self.assertEqual(all_told(copy), inner)


class SpotTest(unittest.TestCase):
    def test_the_least_count_that_no_spot_has_had(self):
        works = Works(sign_base())
        self.assertEqual([works.put(long_program()), works.put(two_program()), works.take(0), works.put(long_program())], [0, 1, None, 2])
        self.assertEqual(works.spots(), [1, 2])
        works.take(2)
        self.assertEqual([works.put(two_program()), works.spots()], [3, [1, 3]])

    def test_a_put_that_was_taken_back_counts_as_never_made(self):
        works = Works(sign_base())
        works.put(long_program())
        works.put(two_program())
        works.undo()
        self.assertEqual([works.put(long_program()), works.spots()], [1, [0, 1]])
        works.undo()
        works.redo()
        self.assertEqual(works.put(two_program()), 2)
        with works.trial():
            self.assertEqual([works.put(long_program()), works.put(long_program())], [3, 4])
        self.assertEqual(works.attempt(lambda it: it.put(long_program())), 3)
        self.assertEqual(works.put(long_program()), 3)

    def test_spots_that_are_none(self):
        works = Works(sign_base())
        works.put(two_program())
        works.put(two_program())
        works.take(0)
        before = all_told(works)
        for wrong in NO_SPOTS + [0, 2] + strange_objects():
            if wrong == 1 and not isinstance(wrong, bool):
                continue
            for call in [
                works.take, works.program_there, works.plan_there, works.given_there, works.known, works.hasten, works.trim,
                works.merge, works.flatten, lambda x: works.give(x, None, None), lambda x: works.drop(x, None),
                lambda x: works.value_there(x, None), lambda x: works.replan(x, None), lambda x: works.cheapen(x, None),
                lambda x: works.give(spot=x, name="x", value="q"), lambda x: works.replan(spot=x, plan=None),
            ]:
                with self.assertRaises(InvalidSpot) as caught:
                    call(wrong)
                self.assertIs(caught.exception.value, wrong)
        self.assertEqual(all_told(works), before)

    def test_programs_that_are_none_or_of_another_base(self):
        works = Works(sign_base())
        for wrong in strange_objects() + [None, two_program().lines(), sign_base()]:
            with self.assertRaises(InvalidProgram) as caught:
                works.put(wrong)
            self.assertIs(caught.exception.value, wrong)
        for other in [two_program(sign_base("left")), two_program(Base(stop_typing(), [], "right"))]:
            with self.assertRaises(Unlike) as caught:
                works.put(program=other)
            self.assertIs(caught.exception.value, other)
        self.assertEqual([works.spots(), works.log(), works.put(two_program(sign_base()))], [[], [], 0])

    def test_bases_that_are_none(self):
        for wrong in strange_objects() + [None, two_program(), stop_typing()]:
            with self.assertRaises(InvalidBase) as caught:
                Works(wrong)
            self.assertIs(caught.exception.value, wrong)
        self.assertEqual(Works(base=sign_base()).spots(), [])

    def test_a_works_is_equal_to_itself(self):
        works = Works(sign_base())
        self.assertTrue(works == works)


class GivenTest(unittest.TestCase):
    def test_names_and_values_that_are_none(self):
        works = Works(sign_base())
        works.put(two_program())
        works.give(0, "x", "q")
        before = all_told(works)
        for wrong in NO_NAMES + ["r", "t"]:
            for call in [lambda: works.give(0, wrong, None), lambda: works.drop(0, wrong), lambda: works.drop(spot=0, name=wrong)]:
                with self.assertRaises(InvalidName) as caught:
                    call()
                self.assertIs(caught.exception.value, wrong)
        for wrong in NO_NAMES:
            with self.assertRaises(InvalidName) as caught:
                works.value_there(0, wrong)
            self.assertIs(caught.exception.value, wrong)
        for wrong in ["m", "mm", "x", "", None, 1, ["q"], ("q",), "p", True, {}]:
            with self.assertRaises(InvalidValue) as caught:
                works.give(0, "x", wrong)
            self.assertIs(caught.exception.value, wrong)
        for name in ["y", "z", "w"]:
            for call in [works.drop, works.value_there]:
                with self.assertRaises(Refused) as caught:
                    call(0, name)
                self.assertIs(caught.exception.value, name)
        for name in ["r", "t"]:
            with self.assertRaises(Refused) as caught:
                works.value_there(spot=0, name=name)
            self.assertIs(caught.exception.value, name)
        self.assertEqual(all_told(works), before)
        self.assertEqual(works.value_there(0, "x"), "q")

    def test_known_through_folds_of_one_name_and_names_used_twice(self):
        works = Works(sign_base())
        works.put(of_lines([("fold", "r", ["x"]), ("fold", "s", ["r"]), ("fold", "t", ["s", "y", "s"]), ("fold", "u", ["t", "z"])]))
        self.assertEqual([works.give(0, "x", "q"), works.known(0)], [[], {"x": "q", "r": "q", "s": "q"}])
        self.assertEqual(works.give(0, "y", "q"), [("t", (0, 2)), ("t", (0, 3))])
        self.assertEqual(works.known(0), {"x": "q", "y": "q", "r": "q", "s": "q", "t": "qq"})
        self.assertEqual(works.give(0, "x", "qq"), [("t", (0, 2)), ("t", (0, 3))])
        self.assertEqual(works.give(0, "y", "o"), [("t", (0, 2))])
        self.assertEqual(works.give(0, "y", "o"), [])
        self.assertEqual(works.give(0, "z", "m"), [("u", (0, 2))])
        self.assertEqual([works.drop(0, "x"), works.known(0)], [None, {"y": "o", "z": "m"}])
        self.assertEqual(works.give(0, "x", "qq"), [("t", (0, 2)), ("t", (0, 3)), ("u", (0, 2))])

    def test_shorter_blocks_first(self):
        works = Works(sign_base())
        row = ["x", "y", "x", "y", "x"]
        works.put(of_lines([("fold", "t", row), ("fold", "u", row)]))
        plan = {"u": [(0, 2), (0, 5), (2, 4), (2, 5)], "t": [(0, 5), (1, 3), (1, 5), (3, 5)]}
        works.replan(0, plan)
        works.give(0, "x", "q")
        self.assertEqual(works.give(0, "y", "q"), [
            ("t", (1, 3)), ("t", (3, 5)), ("t", (1, 5)), ("t", (0, 5)), ("u", (0, 2)), ("u", (2, 4)), ("u", (2, 5)), ("u", (0, 5)),
        ])
        self.assertEqual(list(works.plan_there(0)), ["t", "u"])
        self.assertEqual(list(works.log()[1][2]), ["t", "u"])


class PlanTest(unittest.TestCase):
    def test_plans_that_are_none(self):
        works = Works(sign_base())
        works.put(two_program())
        right = plain_plan(two_program())
        for wrong in strange_objects() + strange_folds() + [
            {"r": [(0, 2)]}, {**right, "x": []}, {**right, "t": [(0, 3), (1, 3)]}, {**right, "r": ((0, 2),)}, {**right, "r": [(False, 2)]},
        ]:
            with self.assertRaises(InvalidPlan) as caught:
                works.replan(0, wrong)
            self.assertIs(caught.exception.value, wrong)
        for wrong in strange_objects() + [None, {}, {**PRICES, ("p", "p"): (0, 0, True)}, {**PRICES, "p": (0, 0, 0)}, list(PRICES.items())]:
            with self.assertRaises(InvalidPrices) as caught:
                works.cheapen(0, wrong)
            self.assertIs(caught.exception.value, wrong)
        self.assertEqual(len(works.log()), 1)

    def test_replan_of_unknown_folds_and_of_the_same_plan(self):
        works = Works(sign_base())
        works.put(long_program())
        self.assertEqual(works.replan(0, {"t": HALVES}), [])
        for name, value in [("x", "q"), ("y", "q"), ("z", "m"), ("w", "q")]:
            works.give(0, name, value)
        self.assertEqual(works.replan(0, {"t": HALVES}), [])
        self.assertEqual(works.replan(0, plain_plan(long_program())), [("t", (0, 3)), ("t", (0, 4))])
        self.assertEqual(len(works.log()), 8)

    def test_the_very_plan_stays_if_it_is_one(self):
        base = kinds_base(signs(), all_triples(signs()), "right")
        program = Program(base, INPUTS + [("fold", "t", ["x"] * 5), ("fold", "u", ["t", "y"])])
        works = Works(base)
        works.put(program)
        flat = [(0, 2), (0, 5), (2, 4), (2, 5)]
        works.replan(0, {"t": flat, "u": [(0, 2)]})
        self.assertEqual([works.hasten(0), works.plan_there(0)["t"]], [[], flat])
        self.assertEqual([works.cheapen(0, flat_prices(base)), works.plan_there(0)["t"]], [[], flat])
        works.replan(0, plain_plan(program))
        for name in "xy":
            works.give(0, name, "p")
        told = works.hasten(0)
        self.assertTrue(is_soonest_plan(program, works.plan_there(0)) and told)
        self.assertEqual(told, replanned_by_words(program, plain_plan(program), works.plan_there(0), {"x": "p", "y": "p"}))
        works.cheapen(0, {pair: (0, 0, 1) for pair in signs().table()})
        self.assertEqual(works.plan_there(0)["t"], [(0, end) for end in range(2, 6)])
        self.assertEqual([entry[0] for entry in works.log()][-2:], ["hasten", "cheapen"])
        self.assertEqual(list(works.log()[-1][2]), sorted(signs().table()))

    def test_plans_kept_and_lost(self):
        base = kinds_base(signs(), all_triples(signs()), "right")
        lines = INPUTS + [
            ("fold", "r", ["x", "y", "x", "y"]), ("fold", "s", ["x", "y", "x", "y"]), ("fold", "t", ["r", "s", "r"]), ("fold", "k", ["z", "z", "z"]),
            ("fold", "u", ["t", "y", "y"]),
        ]
        works = Works(base)
        works.put(Program(base, lines))
        plan = {"r": HALVES, "s": HALVES, "t": [(0, 3), (1, 3)], "k": [(0, 3), (1, 3)], "u": [(0, 3), (1, 3)]}
        works.replan(0, plan)
        for name, kind in [("x", "p"), ("z", "n"), ("w", "p")]:
            works.give(0, name, kind)
        with works.trial():
            self.assertIsNone(works.merge(0))
            self.assertEqual(works.program_there(0).lines()[5:6], [("fold", "t", ["r", "r", "r"])])
            self.assertEqual(works.plan_there(0), {"r": HALVES, "t": [(0, 2), (0, 3)], "k": plan["k"], "u": plan["u"]})
            self.assertEqual(works.given_there(0), {"x": "p", "z": "n", "w": "p"})
            with self.assertRaises(Refused) as caught:
                works.merge(0)
            self.assertEqual(caught.exception.value, 0)
        with works.trial():
            self.assertIsNone(works.trim(0))
            self.assertEqual(works.plan_there(0), {name: plan[name] for name in "rstu"})
            self.assertEqual([works.given_there(0), list(works.known(0))], [{"x": "p"}, ["x"]])
            self.assertRaises(Refused, works.trim, 0)
        with works.trial():
            self.assertIsNone(works.flatten(0))
            self.assertEqual(works.program_there(0).lines()[4:], [
                ("fold", "r", ["x", "y", "x", "y"]), ("fold", "k", ["z", "z", "z"]),
                ("fold", "u", ["r", "x", "y", "x", "y", "r", "y", "y"]),
            ])
            self.assertEqual(works.plan_there(0), {"r": HALVES, "k": plan["k"], "u": [(0, end) for end in range(2, 9)]})
            self.assertRaises(Refused, works.flatten, 0)


class BlockTest(unittest.TestCase):
    def filled(self):
        works = Works(sign_base())
        works.put(two_program())
        works.give(0, "x", "q")
        works.give(0, "z", "m")
        works.undo()
        return works

    def test_left_by_an_error_that_goes_on(self):
        works = self.filled()
        before = all_told(works)
        for error in [KeyError("x"), FoldError(), ValueError("y"), KeyboardInterrupt()]:
            with self.assertRaises(type(error)) as caught:
                with works.trial() as it:
                    it.give(0, "y", "q")
                    with it.trial():
                        works.take(0)
                        raise error
            self.assertIs(caught.exception, error)
            self.assertEqual(all_told(works), before)
        with self.assertRaises(InvalidSpot):
            with works.trial():
                works.put(long_program())
                works.take(5)
        self.assertEqual(all_told(works), before)

    def test_a_block_begins_when_it_is_entered(self):
        works = self.filled()
        block = works.trial()
        works.give(0, "y", "o")
        before = all_told(works)
        with block as it:
            self.assertIs(it, works)
            works.take(0)
        self.assertEqual(all_told(works), before)

    def test_undo_and_redo_within_a_block_also_beyond_where_it_was_entered(self):
        works = self.filled()
        before = all_told(works)
        with works.trial():
            works.redo()
            self.assertEqual(works.given_there(0), {"x": "q", "z": "m"})
            works.undo()
            works.undo()
            works.undo()
            self.assertEqual(works.spots(), [])
            self.assertRaises(NothingToUndo, works.undo)
            works.put(long_program())
            self.assertRaises(NothingToRedo, works.redo)
        self.assertEqual(all_told(works), before)
        works.redo()
        self.assertEqual(works.given_there(0), {"x": "q", "z": "m"})

    def test_blocks_within_blocks_by_both_names(self):
        works = self.filled()
        values = [works.given_there(0)]
        with works.trial() as one:
            one.give(0, "y", "o")
            values.append(works.given_there(0))
            with one.trial() as two:
                works.give(0, "w", "o")
                values.append(two.given_there(0))
                with works.trial() as three:
                    three.drop(0, "x")
                    self.assertEqual(two.given_there(0), {"y": "o", "w": "o"})
                self.assertEqual(one.given_there(0), values[2])
            self.assertEqual(two.given_there(0), values[1])
        self.assertEqual(works.given_there(0), values[0])

    def test_attempts(self):
        works = self.filled()
        before, calls, returned = all_told(works), [], [object(), ["x"]]

        def action(it):
            calls.append(it)
            it.give(0, "y", "q")
            self.assertEqual(works.given_there(0), {"x": "q", "y": "q"})
            return returned
        self.assertIs(works.attempt(action), returned)
        self.assertTrue(len(calls) == 1 and calls[0] is works)
        self.assertEqual(all_told(works), before)
        self.assertIsNone(works.attempt(action=lambda it: it.take(0)))
        self.assertIs(works.attempt(lambda it: it.attempt(lambda other: other)), works)

        def failing(it):
            it.take(0)
            raise KeyError("x")
        self.assertRaises(KeyError, works.attempt, failing)
        self.assertEqual(all_told(works), before)

    def test_copies_go_their_own_way(self):
        works = self.filled()
        before = all_told(works)
        copy = works.copy()
        more = copy.copy()
        self.assertEqual([all_told(copy), all_told(more)], [before, before])
        copy.redo()
        copy.put(long_program())
        more.undo()
        self.assertEqual(all_told(works), before)
        self.assertEqual([works.spots(), copy.spots(), more.given_there(0)], [[0], [0, 1], {}])
        more.redo()
        more.redo()
        self.assertEqual(more.given_there(0), {"x": "q", "z": "m"})
        with works.trial():
            works.take(0)
            inside = works.copy()
        self.assertEqual([inside.spots(), works.spots()], [[], [0]])
        inside.undo()
        self.assertEqual(inside.spots(), [0])
        self.assertFalse(works == None)

    def test_what_raises_an_error_is_no_command(self):
        works = self.filled()
        before = all_told(works)
        for call in [
            lambda: works.give(0, "x", "mm"), lambda: works.take(4), lambda: works.put(None), lambda: works.replan(0, {}),
            lambda: works.trim(0) or works.trim(0), lambda: works.merge(0), lambda: works.drop(0, "y"), lambda: works.cheapen(0, {}),
            lambda: works.value_there(0, "t"), lambda: works.attempt(None),
        ]:
            self.assertRaises((FoldError, TypeError), call)
            self.assertEqual(all_told(works), before)
        works.redo()
        self.assertRaises(NothingToRedo, works.redo)

    def test_asking_is_no_command(self):
        works = self.filled()
        before = all_told(works)
        works.known(0), works.spots(), works.log(), works.copy(), works.value_there(0, "x"), works.plan_there(0)
        works.redo()
        works.undo()
        self.assertEqual(all_told(works), before)
        self.assertEqual([works.undo(), works.undo()], [None, None])
        self.assertRaises(NothingToUndo, works.undo)
        self.assertEqual([works.redo(), works.redo(), works.redo()], [None] * 3)

    def test_nested_ten_deep(self):
        works = self.filled()
        before = all_told(works)

        def deeper(it, left):
            it.give(0, "y", "q" if left % 2 else "o")
            return it.attempt(lambda other: deeper(other, left - 1)) if left else it.given_there(0)["y"]
        self.assertEqual(deeper(works, 12), "o")
        works.undo()
        works.redo()
        self.assertNotEqual(all_told(works), before)


class LogTest(unittest.TestCase):
    def test_each_command(self):
        works = Works(sign_base())
        program = of_lines([("fold", "r", ["x", "y"]), ("fold", "s", ["x", "y"]), ("fold", "k", ["r"]), ("fold", "t", ["r", "s", "w"])])
        commands = [
            ("put", program), ("put", two_program()), ("give", 0, "x", "q"), ("drop", 0, "x"), ("cheapen", 0, PRICES), ("hasten", 0),
            ("merge", 0), ("trim", 0), ("flatten", 1), ("replan", 1, {"t": HALVES}), ("take", 0),
        ]
        for command in commands:
            getattr(works, command[0])(*command[1:])
        self.assertEqual(works.log(), commands)
        made = replayed(Works(sign_base()), works.log())
        self.assertEqual(told_of(made), told_of(works))
        for many in range(len(commands)):
            works.undo()
            self.assertEqual(works.log(), commands[:len(commands) - many - 1])

    def test_a_copy_is_played_on(self):
        works = Works(sign_base())
        works.put(two_program())
        works.put(two_program())
        works.undo()
        before = all_told(works)
        made = replayed(works, [("give", 0, "x", "q"), ("put", long_program())])
        self.assertEqual([made.spots(), works.spots(), len(made.log())], [[0, 1], [0], 3])
        self.assertEqual(all_told(works), before)
        same = replayed(works=works, log=[])
        same.redo()
        self.assertEqual(same.spots(), [0, 1])
        self.assertEqual(all_told(works), before)

    def test_logs_of_other_forms(self):
        works = Works(sign_base())
        works.put(two_program())
        for wrong in strange_objects() + strange_folds() + [
            (("take", 0),), [["take", 0]], [("take",)], [("take", 0, 0)], [("put",)], [("put", 1, 2)], [("give", 0, "x")],
            [("give", 0, "x", "q", 1)], [("drop", 0)], [("replan", 0)], [("cheapen", 0)], [("hasten",)], [("trim", 0, 0)], [("merge",)],
            [("flatten",)], [("undo",)], [("redo",)], [("known", 0)], [("value_there", 0, "x")], [("try", [])], [()], [None], ["take"],
            [("Take", 0)], {0: ("take", 0)}, [(["take"], 0)], [(0, "take")], [("take", 0), None], ("take", 0), [(True, 0)],
        ]:
            if repr(wrong) == "[]":
                continue
            with self.assertRaises(InvalidLog, msg=wrong) as caught:
                replayed(works, wrong)
            self.assertIs(caught.exception.value, wrong)
        for wrong in strange_objects() + [None, sign_base()]:
            with self.assertRaises(InvalidWorks) as caught:
                replayed(wrong, None)
            self.assertIs(caught.exception.value, wrong)

    def test_logs_whose_entries_raise(self):
        works = Works(sign_base())
        works.put(two_program())
        before = all_told(works)
        strange = [1]
        for log, error, value in [
            ([("give", 0, "x", "q"), ("take", 4), ("put", None)], InvalidSpot, 4), ([("put", None), ("take", 4)], InvalidProgram, None),
            ([("put", long_program(sign_base("left")))], Unlike, None), ([("give", 0, strange, "q")], InvalidName, strange),
            ([("give", 0, "x", strange)], InvalidValue, strange), ([("take", 0), ("hasten", 0)], InvalidSpot, 0),
            ([("replan", 0, strange)], InvalidPlan, strange), ([("cheapen", 0, strange)], InvalidPrices, strange),
            ([("drop", 0, "y")], Refused, "y"), ([("trim", 0)], Refused, 0), ([("merge", 0)], Refused, 0),
            ([("flatten", 0), ("flatten", 0)], Refused, 0), ([("take", strange)], InvalidSpot, strange), ([("drop", 0, "t")], InvalidName, "t"),
        ]:
            with self.assertRaises(error, msg=log) as caught:
                replayed(works, log)
            self.assertEqual(type(caught.exception), error)
            if value is not None:
                self.assertIs(caught.exception.value, value)
            self.assertEqual(all_told(works), before)


class ValuesTest(unittest.TestCase):
    def test_what_is_passed_and_returned_may_be_changed(self):
        works = Works(sign_base())
        lines = two_program().lines()
        works.put(Program(sign_base(), lines))
        plan, prices = {"r": [(0, 2)], "t": [(0, 2), (0, 3)]}, dict(PRICES)
        works.replan(0, plan)
        works.cheapen(0, prices)
        for name, value in [("x", "q"), ("y", "q"), ("z", "m"), ("w", "q")]:
            works.give(0, name, value)
        before = all_told(works)
        plan["t"].clear()
        plan.clear()
        prices[("p", "p")] = None
        lines[4][2].clear()
        for _ in range(2):
            works.spots().append(9)
            works.plan_there(0)["t"].append(None)
            works.plan_there(0).clear()
            works.given_there(0).clear()
            works.known(0).clear()
            works.program_there(0).lines()[4][2].clear()
            works.give(0, "x", "q").append(1)
            works.undo()
            log = works.log()
            log[1][2]["t"].clear()
            log[1][2].clear()
            log[2][2].clear()
            log.clear()
        works.redo()
        works.undo()
        self.assertEqual(told_of(works), before[0])

    def test_what_was_told_stays_as_it_was(self):
        works = Works(sign_base())
        works.put(two_program())
        works.give(0, "z", "m")
        told = [works.spots(), works.plan_there(0), works.given_there(0), works.known(0), works.log(), works.give(0, "w", "q")]
        wanted = snapshot(told)
        works.give(0, "z", "o")
        works.replan(0, {"t": [(0, 2), (0, 3)], "r": [(0, 2)]})
        works.flatten(0)
        works.take(0)
        works.put(long_program())
        for _ in range(5):
            works.undo()
        self.assertEqual(snapshot(told), wanted)

    def test_the_order_of_the_keys_of_a_plan_and_of_prices_means_nothing(self):
        for turned in (False, True):
            works = Works(sign_base())
            works.put(two_program())
            plan, prices = {"t": [(0, 2), (0, 3)], "r": [(0, 2)]}, dict(PRICES)
            if turned:
                plan, prices = [dict(reversed(list(told.items()))) for told in (plan, prices)]
            works.replan(0, plan)
            works.cheapen(0, prices)
            self.assertEqual([list(works.log()[1][2]), list(works.log()[2][2])], [["r", "t"], sorted(PRICES)])
            self.assertEqual(list(works.plan_there(0)), ["r", "t"])


class SizeTest(unittest.TestCase):
    def test_great_works_are_answered(self):
        base = Base(stop_typing(), SIGN_TRIPLES, "left")
        lines = INPUTS[:1] + [("fold", name, ["x"] * 9) for name in "abcdefghij"] + [("fold", "z", ["x"] * 12)]
        works = Works(base)
        for _ in range(4):
            works.put(Program(base, lines))
        for spot in range(4):
            self.assertEqual(len(works.give(spot, "x", "q")), 91)
            for _ in range(2):
                works.hasten(spot)
                works.cheapen(spot, some_prices(base, spot, 10 ** 9))
            works.merge(spot)
            self.assertEqual([line[1] for line in works.program_there(spot).lines()], ["x", "a", "z"])
        self.assertEqual(len(works.log()), 28)
        self.assertEqual(told_of(replayed(Works(base), works.log())), told_of(works))
        for _ in range(28):
            works.undo()
        self.assertEqual(works.spots(), [])


if __name__ == "__main__":
    unittest.main()
