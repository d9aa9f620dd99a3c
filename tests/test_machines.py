"""Section 16: a machine."""

import unittest
from itertools import combinations
from random import Random

from shiftfolds.errors import (
    InvalidBlock, InvalidHands, InvalidInputs, InvalidLosses, InvalidName, InvalidPlan, InvalidProgram, InvalidValue,
    Unlike,
)
from shiftfolds.machines import (
    distances, edited, is_feed, is_parting_feed, is_run, is_trace, needs, parting_feed, result_of, run_by,
    steps_at_least, steps_at_most, trace, values_by, works,
)
from shiftfolds.programs import Program, flattened, merged, plain_plan, surely_alike
from shiftfolds.rights import Base
from shiftfolds.typings import Kinds, Typing

from tests.folds import mid_of
from tests.helpers import stop, strange_folds, strange_objects
from tests.programs import (
    INPUTS, all_feeds, fed_programs, folds_of, inputs_of, long_program, random_feed, random_program, results, sign_base,
    some_plans, some_programs, told_by_words, two_program,
)
from tests.test_programs import NO_NAMES, of_lines

FEED = {"x": "qq", "y": "q", "z": "mm", "w": "q"}
NO_HANDS = [0, -1, True, False, "1", None, [1], (1,), {}]


def works_by_words(program, plan):
    return [(name, first, end) for name in folds_of(program) for first, end in sorted(plan[name])]


def thing_work(program, name):
    """The work of the whole row of the fold whose name stands somewhere, None for an input, through folds of one name."""
    folds = folds_of(program)
    if name not in folds:
        return None
    if len(folds[name]) == 1:
        return thing_work(program, folds[name][0])
    return (name, 0, len(folds[name]))


def needs_by_words(program, plan, work):
    name, first, end = work
    mid, found = mid_of(plan[name], (first, end)), set()
    for one, other in ((first, mid), (mid, end)):
        need = (name, one, other) if other - one > 1 else thing_work(program, folds_of(program)[name][one])
        if need:
            found.add(need)
    return [other for other in works_by_words(program, plan) if other in found]


def distances_by_words(program, plan):
    some = works_by_words(program, plan)
    needed_by = {work: [other for other in some if work in needs_by_words(program, plan, other)] for work in some}

    def far(work):
        return max([far(other) + 1 for other in needed_by[work]], default=0)
    return {work: far(work) for work in some}


def run_by_words(program, plan, hands, losses):
    some, far = works_by_words(program, plan), distances_by_words(program, plan)
    done, steps = set(), []
    while len(done) < len(some):
        ready = [work for work in some if work not in done and set(needs_by_words(program, plan, work)) <= done]
        ready.sort(key=lambda work: (-far[work], some.index(work)))
        lost = losses[len(steps)] if len(steps) < len(losses) else []
        steps.append(sorted([work for work in ready[:hands] if work not in lost], key=some.index))
        done.update(steps[-1])
    return steps


def is_run_by_words(program, plan, hands, steps):
    some, done = works_by_words(program, plan), []
    for step in steps:
        if not step or len(step) > hands or step != [work for work in some if work in step]:
            return False
        if not all(set(needs_by_words(program, plan, work)) <= set(done) for work in step):
            return False
        done += step
    return sorted(done) == sorted(some) and len(done) == len(set(done))


def least_steps(program, plan, hands):
    """The least number of steps of ALL runs."""
    some = works_by_words(program, plan)
    needed = {work: set(needs_by_words(program, plan, work)) for work in some}
    reached, steps = {frozenset()}, 0
    while frozenset(some) not in reached:
        further = set()
        for done in reached:
            ready = [work for work in some if work not in done and needed[work] <= done]
            for many in range(1, min(hands, len(ready)) + 1):
                further.update(done | set(taken) for taken in combinations(ready, many))
        reached, steps = further, steps + 1
    return steps


def some_losses(some, chance):
    return [
        sorted(chance.sample(some, chance.randint(0, min(3, len(some)))), key=some.index) for _ in range(chance.randint(0, 4))
    ]


def planned(many=60, step=1):
    """Programs with some of their plans."""
    for at, program in enumerate(some_programs(many)[::step]):
        for plan in some_plans(program, at, 3):
            yield program, plan


class ExamplesTest(unittest.TestCase):
    def test_stop(self):
        long, two = long_program(), two_program()
        plan = plain_plan(two)
        self.assertEqual(list(values_by(two, plan, FEED).items()), [("x", "qq"), ("y", "q"), ("z", "mm"), ("w", "q"), ("r", "m"), ("t", "q")])
        self.assertEqual(result_of(long, FEED), "q")
        self.assertEqual(works(two, plan), [("r", 0, 2), ("t", 0, 2), ("t", 0, 3)])
        self.assertEqual(needs(two, plan, ("t", 0, 3)), [("r", 0, 2), ("t", 0, 2)])
        self.assertEqual(list(distances(two, plan).items()), [(("r", 0, 2), 1), (("t", 0, 2), 1), (("t", 0, 3), 0)])
        self.assertEqual(run_by(two, plan, 2, []), [[("r", 0, 2), ("t", 0, 2)], [("t", 0, 3)]])
        self.assertEqual(run_by(two, plan, 2, [[("r", 0, 2)]]), [[("t", 0, 2)], [("r", 0, 2)], [("t", 0, 3)]])
        self.assertIs(is_run(two, plan, 1, [[("t", 0, 2)], [("r", 0, 2)], [("t", 0, 3)]]), True)
        self.assertEqual(trace(two, plan, FEED, 2), [{("r", 0, 2): "m", ("t", 0, 2): "qq"}, {("t", 0, 3): "q"}])
        self.assertEqual([steps_at_least(two, plan, 2), steps_at_most(two, plan, 2)], [2, 2])
        self.assertEqual(edited(two, plan, FEED, "y", "o"), {("t", 0, 2): "qq"})
        self.assertEqual(edited(two, plan, FEED, "z", "m"), {("r", 0, 2): "o", ("t", 0, 3): "qq"})
        self.assertIsNone(parting_feed(long, two))


class FeedTest(unittest.TestCase):
    def test_any_object(self):
        program = two_program()
        self.assertIs(is_feed(program, FEED), True)
        self.assertIs(is_feed(program, dict(reversed(list(FEED.items())))), True)
        bent = [
            {**FEED, "x": "mm"}, {**FEED, "r": "m"}, {**FEED, "x": ["qq"]}, {**FEED, "x": None}, {**FEED, "x": "x"}, {**FEED, "k": "q"},
            {name: FEED[name] for name in "xyz"}, list(FEED.items()), {**{name: FEED[name] for name in "xyz"}, 1: "q"},
            {**{name: FEED[name] for name in "xyz"}, ("w",): "q"}, tuple(FEED), list(FEED.values()), {**FEED, "z": "qq"},
        ]
        for wrong in strange_objects() + strange_folds() + bent:
            self.assertIs(is_feed(program, wrong), False)
            self.assertIs(is_parting_feed(program, long_program(), wrong), False)
            for call in [
                lambda: values_by(program, plain_plan(program), wrong), lambda: result_of(program, wrong),
                lambda: trace(program, plain_plan(program), wrong, None), lambda: is_trace(program, plain_plan(program), wrong, None, None),
                lambda: edited(program, plain_plan(program), wrong, None, None),
            ]:
                with self.assertRaises(InvalidInputs) as caught:
                    call()
                self.assertIs(caught.exception.value, wrong)

    def test_values_by_plans_block_by_block(self):
        for at, (program, plan) in enumerate(planned(90)):
            feed = random_feed(program, at)
            told = values_by(program, plan, feed)
            self.assertEqual(list(told.items()), list(told_by_words(program, plan, feed)[0].items()))
            self.assertEqual(result_of(program, feed), told[program.lines()[-1][1]])

    def test_every_plan_gives_the_same_values(self):
        for program in fed_programs():
            for feed in all_feeds(program)[::3]:
                wanted = values_by(program, plain_plan(program), feed)
                for plan in some_plans(program, 2, 3):
                    self.assertEqual(values_by(program, plan, feed), wanted)


class WorksTest(unittest.TestCase):
    def test_works_needs_and_distances(self):
        for program, plan in planned(120):
            some = works_by_words(program, plan)
            self.assertEqual(works(program, plan), some)
            for work in some:
                self.assertEqual(needs(program, plan, work), needs_by_words(program, plan, work))
            self.assertEqual(list(distances(program, plan).items()), list(distances_by_words(program, plan).items()))

    def test_by_hand_through_folds_of_one_name(self):
        program = of_lines([
            ("fold", "r", ["x", "y"]), ("fold", "s", ["r"]), ("fold", "t", ["s"]), ("fold", "u", ["t", "t"]), ("fold", "v", ["z"]),
            ("fold", "k", ["v", "w", "u"]), ("fold", "m", ["k"]),
        ])
        plan = plain_plan(program)
        self.assertEqual(works(program, plan), [("r", 0, 2), ("u", 0, 2), ("k", 0, 2), ("k", 0, 3)])
        self.assertEqual([needs(program, plan, work) for work in works(program, plan)], [
            [], [("r", 0, 2)], [], [("u", 0, 2), ("k", 0, 2)],
        ])
        self.assertEqual(list(distances(program, plan).values()), [2, 1, 1, 0])
        self.assertEqual(run_by(program, plan, 1, []), [[("r", 0, 2)], [("u", 0, 2)], [("k", 0, 2)], [("k", 0, 3)]])
        self.assertEqual(edited(program, plan, FEED, "z", "o"), {("k", 0, 2): "q", ("k", 0, 3): "qq"})
        alone = of_lines([("fold", "r", ["x"]), ("fold", "s", ["r"])])
        self.assertEqual([works(alone, plain_plan(alone)), distances(alone, plain_plan(alone))], [[], {}])
        self.assertEqual([values_by(alone, plain_plan(alone), FEED)["s"], result_of(alone, FEED)], ["qq", "qq"])

    def test_a_work_is_far_from_the_farthest_that_needs_it(self):
        program = of_lines([("fold", "r", ["x", "y"]), ("fold", "s", ["r", "x"]), ("fold", "t", ["s", "r"]), ("fold", "u", ["r", "r"])])
        self.assertEqual(list(distances(program, plain_plan(program)).values()), [2, 1, 0, 0])

    def test_works_that_are_none(self):
        program = two_program()
        plan = plain_plan(program)
        for wrong in strange_objects() + strange_folds() + [
            ("t", 0, 1), ("t", 1, 3), ("x", 0, 2), ("r", 0, 3), ("t", False, 2), ["t", 0, 2], ("t", 0), ("t", 0, 2, 2), ("t", (0, 2)),
            (("t",), 0, 2), ("t", "0", 2), "t", None, ("t", 0, None), ("t", 0, [2]), [("t", 0, 2)], ("q", 0, 2), (["t"], 0, 2),
        ]:
            with self.assertRaises(InvalidBlock) as caught:
                needs(program, plan, wrong)
            self.assertIs(caught.exception.value, wrong)


class RunTest(unittest.TestCase):
    def test_step_by_step(self):
        chance, waiting = Random(8), 0
        for program, plan in planned(120):
            for hands in (1, 2, 3):
                some = works(program, plan)
                for losses in [[]] + [some_losses(some, chance) for _ in range(2)]:
                    steps = run_by_words(program, plan, hands, losses)
                    self.assertEqual(run_by(program, plan, hands, losses), steps)
                    waiting += [] in steps
                    self.assertIs(is_run(program, plan, hands, [step for step in steps if step]), True)
                    if [] in steps:
                        self.assertIs(is_run(program, plan, hands, steps), False)
        self.assertTrue(waiting > 10)

    def test_bent_runs(self):
        told = {True: 0, False: 0}
        for program, plan in planned(90, 2):
            for hands in (1, 2, 9):
                steps = run_by(program, plan, hands, [])
                for bent in bent_runs(steps):
                    wanted = is_run_by_words(program, plan, hands, bent)
                    self.assertIs(is_run(program, plan, hands, bent), wanted)
                    told[wanted] += 1
        self.assertTrue(min(told.values()) > 50, told)

    def test_any_object(self):
        program = two_program()
        plan, right = plain_plan(program), [[("r", 0, 2), ("t", 0, 2)], [("t", 0, 3)]]
        self.assertIs(is_run(program, plan, 2, right), True)
        for wrong in strange_objects() + strange_folds() + [
            tuple(right), [tuple(step) for step in right], [[("t", 0, 2), ("r", 0, 2)], [("t", 0, 3)]], right + [[]], [[]] + right, None,
            [[("r", 0, 2), ("t", False, 2)], [("t", 0, 3)]], [[["r", 0, 2], ("t", 0, 2)], [("t", 0, 3)]], right[:1], right[1:], {0: right},
            [[("r", 0, 2), ("r", 0, 2)], [("t", 0, 2)], [("t", 0, 3)]], right + [[("r", 0, 2)]], [right[0] + right[1]], [right], [None],
            [[("r", 0, 2), ("t", 0, 2)], [("t", 0, 4)]], [[("r", 0, 2), ("t", 0, 2)], [None]], [("r", 0, 2), ("t", 0, 2)], [[("r", 0, 2, 0)]],
        ]:
            self.assertIs(is_run(program, plan, 2, wrong), False)
        self.assertIs(is_run(program, plan, 1, right), False)
        self.assertIs(is_run(program, plan, 10 ** 30, right), True)
        none = of_lines([])
        self.assertEqual([is_run(none, {}, 1, []), is_run(none, {}, 1, [[]]), run_by(none, {}, 1, [])], [True, False, []])

    def test_losses_that_are_none(self):
        program = two_program()
        plan = plain_plan(program)
        right = [[], [("r", 0, 2)], [("r", 0, 2), ("t", 0, 3)], [("r", 0, 2), ("t", 0, 2), ("t", 0, 3)]]
        self.assertEqual(run_by(program, plan, 2, right), run_by_words(program, plan, 2, right))
        self.assertEqual(run_by(program, plan, 2, [[]] * 5), run_by(program, plan, 2, []))
        for wrong in strange_objects() + strange_folds() + [
            tuple(right), [()], [[("t", 0, 2), ("r", 0, 2)]], [[("r", 0, 2), ("r", 0, 2)]], [[("x", 0, 2)]], [[("t", False, 2)]], [None],
            [[["r", 0, 2]]], [("r", 0, 2)], [[("r", 0, 2)], None], [[("r", 0, 2), None]], {0: []}, [[("t", 1, 3)]], [[(0, 2)]], None, [["r"]],
        ]:
            if repr(wrong) in ("[]", "[[]]", "[[], []]"):
                continue
            with self.assertRaises(InvalidLosses) as caught:
                run_by(program, plan, 2, wrong)
            self.assertIs(caught.exception.value, wrong)


def bent_runs(steps):
    found = [steps[:-1], steps[1:], steps[::-1], steps + steps[-1:], steps + [[]], [step[::-1] for step in steps]]
    found.append([[work] for step in steps for work in step])
    for at in range(len(steps)):
        if at:
            found.append(steps[:at - 1] + [steps[at - 1] + steps[at]] + steps[at + 1:])
            found.append(steps[:at - 1] + [steps[at], steps[at - 1]] + steps[at + 1:])
        for work in steps[at]:
            rest = [other for other in steps[at] if other != work]
            found.append(steps[:at] + ([rest] if rest else []) + [[work]] + steps[at + 1:])
            found.append(steps[:at] + ([rest] if rest else []) + steps[at + 1:] + [[work]])
    return found


class TraceTest(unittest.TestCase):
    def test_machines_runs(self):
        for at, (program, plan) in enumerate(planned(80)):
            feed = random_feed(program, at)
            values = told_by_words(program, plan, feed)[1]
            for hands in (1, 3):
                steps = run_by_words(program, plan, hands, [])
                told = trace(program, plan, feed, hands)
                self.assertEqual([list(step.items()) for step in told], [[(work, values[work]) for work in step] for step in steps])
                self.assertIs(is_trace(program, plan, feed, hands, told), True)
                self.assertIs(is_trace(program, plan, feed, hands, [dict(reversed(list(step.items()))) for step in told]), True)
                for bent in bent_runs(steps)[::2]:
                    if all(len(set(step)) == len(step) for step in bent):
                        wanted = is_run_by_words(program, plan, hands, [[work for work in values if work in step] for step in bent])
                        value = [{work: values[work] for work in step} for step in bent]
                        self.assertIs(is_trace(program, plan, feed, hands, value), wanted)

    def test_bent_in_one_value(self):
        program = two_program()
        plan = plain_plan(program)
        told = trace(program, plan, FEED, 2)
        for at, step in enumerate(told):
            for work in step:
                for value in ["m", "mm", "o", "q", "qq", "x", None, 1, ["q"], True]:
                    bent = told[:at] + [{**step, work: value}] + told[at + 1:]
                    self.assertIs(is_trace(program, plan, FEED, 2, bent), value == step[work])

    def test_any_object(self):
        program = two_program()
        plan = plain_plan(program)
        told = trace(program, plan, FEED, 2)
        for wrong in strange_objects() + strange_folds() + [
            tuple(told), told[:1], told[1:], told + [{}], [{}] + told, [list(step.items()) for step in told], told[::-1], None, [None],
            [{**told[0], ("t", 0, 4): "q"}, told[1]], [{("r", False, 2): "m", ("t", 0, 2): "qq"}, told[1]], [list(step) for step in told],
            [{**told[0], **told[1]}], [told[0], {**told[1], ("r", 0, 2): "m"}], {0: told[0], 1: told[1]}, [{**told[0], "x": "qq"}, told[1]],
        ]:
            self.assertIs(is_trace(program, plan, FEED, 2, wrong), False)
        self.assertIs(is_trace(program, plan, FEED, 1, told), False)
        self.assertIs(is_trace(program, plan, FEED, 1, [{("r", 0, 2): "m"}, {("t", 0, 2): "qq"}, told[1]]), True)
        none = of_lines([])
        self.assertEqual([trace(none, {}, FEED, 1), is_trace(none, {}, FEED, 1, []), is_trace(none, {}, FEED, 1, [{}])], [[], True, False])


class StepsTest(unittest.TestCase):
    def test_both_numbers(self):
        several = 0
        for program, plan in planned(120):
            far = list(distances_by_words(program, plan).values())
            for hands in (1, 2, 3, 9):
                wanted = max([at + -(-len([j for j in far if j >= at]) // hands) for at in far], default=0)
                self.assertEqual(steps_at_least(program, plan, hands), wanted)
                most = len(run_by_words(program, plan, hands, []))
                self.assertEqual(steps_at_most(program, plan, hands), most)
                if len(far) <= 8:
                    self.assertTrue(wanted <= least_steps(program, plan, hands) <= most)
                folds = folds_of(program)
                names = [name for names in folds.values() for name in names]
                if all(names.count(name) == 1 for name in folds if name != program.lines()[-1][1]) and self.ends_in_a_fold(program):
                    self.assertEqual(wanted, most)
                several += any(names.count(name) > 1 for name in folds)
        self.assertTrue(several > 50)

    def ends_in_a_fold(self, program):
        return program.lines()[-1][1] in folds_of(program)

    def test_the_numbers_may_be_apart(self):
        # after three steps of one work each, five works are left at two distances: two hands need three steps more
        program = Program(sign_base(), [
            ("input", "x", "a"), ("fold", "y", ["x", "x"]), ("fold", "z", ["x", "y", "y"]), ("fold", "w", ["z", "x", "z"]),
            ("fold", "r", ["z", "z", "x"]), ("fold", "t", ["z", "x"]),
        ])
        plan = plain_plan(program)
        self.assertEqual(list(distances(program, plan).values()), [4, 3, 2, 1, 0, 1, 0, 0])
        self.assertEqual([steps_at_least(program, plan, 2), steps_at_most(program, plan, 2)], [5, 6])
        self.assertEqual(least_steps(program, plan, 2), 6)
        self.assertEqual([steps_at_least(program, plan, 1), steps_at_most(program, plan, 1)], [8, 8])

    def test_many_hands_and_none(self):
        program = two_program()
        plan = plain_plan(program)
        self.assertEqual([steps_at_least(program, plan, 10 ** 30), steps_at_most(program, plan, 10 ** 30)], [2, 2])
        self.assertEqual([steps_at_least(of_lines([]), {}, 3), steps_at_most(of_lines([]), {}, 3)], [0, 0])
        for wrong in NO_HANDS:
            for call in [
                lambda: steps_at_least(program, plan, wrong), lambda: steps_at_most(program, plan, wrong),
                lambda: is_run(program, plan, wrong, None), lambda: run_by(program, plan, wrong, None),
                lambda: trace(program, plan, FEED, wrong), lambda: is_trace(program, plan, FEED, wrong, None),
            ]:
                with self.assertRaises(InvalidHands) as caught:
                    call()
                self.assertIs(caught.exception.value, wrong)


def edited_by_words(program, plan, feed, name, value):
    """What is done anew, by doing all blocks before and behind."""
    before, behind = told_by_words(program, plan, feed)[1], told_by_words(program, plan, {**feed, name: value})[1]
    folds, anew = folds_of(program), {}

    def is_it(part):
        return part == name or part in folds and len(folds[part]) == 1 and is_it(folds[part][0])
    if feed[name] == value:
        return {}
    waiting = works_by_words(program, plan)
    while waiting:
        work = [one for one in waiting if not set(needs_by_words(program, plan, one)) & set(waiting)][0]
        waiting.remove(work)
        fold, first, end = work
        mid = mid_of(plan[fold], (first, end))
        things = [folds[fold][one] for one, other in ((first, mid), (mid, end)) if other - one == 1]
        changed = [need for need in needs_by_words(program, plan, work) if need in anew and before[need] != behind[need]]
        if changed or any(is_it(part) for part in things):
            anew[work] = behind[work]
    return {work: anew[work] for work in works_by_words(program, plan) if work in anew}


class EditTest(unittest.TestCase):
    def test_each_input_to_each_value(self):
        kept, none = 0, 0
        for at, program in enumerate(fed_programs()):
            holding = program.base().typed().holding()
            for plan in some_plans(program, at, 2):
                feed = random_feed(program, at)
                for name, kind in inputs_of(program).items():
                    for value in holding[kind]:
                        told = edited(program, plan, feed, name, value)
                        wanted = edited_by_words(program, plan, feed, name, value)
                        self.assertEqual(list(told.items()), list(wanted.items()))
                        none += not told
                        before = told_by_words(program, plan, feed)[1]
                        kept += any(before[work] == told[work] for work in told)
        self.assertTrue(kept > 20 and none > 20)

    def test_wrong_arguments(self):
        program = two_program()
        plan = plain_plan(program)
        for wrong in NO_NAMES + ["r", "t"]:
            with self.assertRaises(InvalidName) as caught:
                edited(program, plan, FEED, wrong, None)
            self.assertIs(caught.exception.value, wrong)
        for wrong in ["m", "mm", "x", "", None, 1, ["q"], ("q",), "p", True, {}]:
            with self.assertRaises(InvalidValue) as caught:
                edited(program, plan, FEED, "x", wrong)
            self.assertIs(caught.exception.value, wrong)
        self.assertEqual(edited(program, plan, FEED, "x", "qq"), {})
        self.assertEqual(FEED, {"x": "qq", "y": "q", "z": "mm", "w": "q"})


def regrouped(program, seed):
    """The program with the names of one of its folds in another order, or with one name more or less."""
    chance, lines = Random(seed), program.lines()
    places = [at for at, line in enumerate(lines) if line[0] == "fold"]
    if not places:
        return program
    word, name, names = lines[chance.choice(places)]
    at = lines.index((word, name, names))
    changed = chance.choice([names[::-1], names + names[:1], names[1:] or names])
    return Program(program.base(), lines[:at] + [(word, name, changed)] + lines[at + 1:])


class PartingTest(unittest.TestCase):
    def test_by_all_feeds(self):
        told = {True: 0, False: 0}
        for seed, program in enumerate(fed_programs(80)):
            for other in [regrouped(program, seed), flattened(program), merged(program)]:
                one, two = results(program), results(other)
                feed = parting_feed(program, other)
                self.assertEqual(feed is None, one == two)
                self.assertIs(is_parting_feed(program, other, feed), one != two)
                told[one == two] += 1
                if one != two:
                    self.assertNotEqual(result_of(program, feed), result_of(other, feed))
                if surely_alike(program, other):
                    self.assertIsNone(feed)
                for each, first, second in list(zip(all_feeds(program), one, two))[::5]:
                    self.assertIs(is_parting_feed(program, other, each), first != second)
        self.assertTrue(min(told.values()) > 10, told)

    def test_by_hand(self):
        one = of_lines([("fold", "t", ["x", "y", "z"])])
        other = Program(sign_base(), INPUTS[::-1] + [("fold", "r", ["y", "z"]), ("fold", "t", ["x", "r"])])
        feed = parting_feed(one, other)
        self.assertNotEqual(result_of(one, feed), result_of(other, feed))
        self.assertIs(is_parting_feed(one, other, {"x": "qq", "y": "qq", "z": "mm", "w": "o"}), True)
        self.assertIs(is_parting_feed(one, other, {"x": "o", "y": "o", "z": "o", "w": "o"}), False)
        self.assertIs(is_parting_feed(one, other, {"x": "qq", "y": "qq", "z": "mm"}), False)
        self.assertIsNone(parting_feed(of_lines([]), of_lines([])))

    def test_unlike_programs(self):
        one = two_program()
        for other in [two_program(sign_base("left")), Program(sign_base(), INPUTS[:3]), Program(sign_base(), INPUTS + [("input", "k", "p")])]:
            for call in [parting_feed, lambda *told: is_parting_feed(*told, None)]:
                with self.assertRaises(Unlike) as caught:
                    call(one, other)
                self.assertIs(caught.exception.value, other)
        for wrong in strange_objects() + [None, one.lines()]:
            for two in [(wrong, None), (one, wrong)]:
                for call in [parting_feed, lambda *told: is_parting_feed(*told, None)]:
                    with self.assertRaises(InvalidProgram) as caught:
                        call(*two)
                    self.assertIs(caught.exception.value, wrong)


class SizeTest(unittest.TestCase):
    def test_a_thousand_feeds(self):
        names = [chr(ord("a") + at) * 2 for at in range(10)]
        operation = stop()
        kinds = Kinds({("k", "k"): "k"})
        base = Base(Typing(operation, kinds, {"k": operation.names()}), [], "right")
        inputs = [("input", name, "k") for name in "abcd"]
        lines = inputs + [("fold", name, list("abcd") * 3) for name in names[:7]]
        one, other = [Program(base, lines + [("fold", "z", told)]) for told in (["a", "b"], ["a", "b", "c"])]
        self.assertIsNone(parting_feed(one, one))
        self.assertIs(is_parting_feed(one, other, parting_feed(one, other)), True)

    def test_the_greatest_programs(self):
        lines = INPUTS[:1] + [("fold", name, ["x"] * 12) for name in "abcdefghij"] + [("fold", "z", ["x"] * 12)]
        program = Program(sign_base(), lines)
        plan, feed = plain_plan(program), {"x": "q"}
        self.assertEqual([len(works(program, plan)), steps_at_least(program, plan, 1), steps_at_most(program, plan, 9)], [121, 121, 14])
        told = trace(program, plan, feed, 9)
        self.assertIs(is_trace(program, plan, feed, 9, told), True)
        self.assertIs(is_run(program, plan, 9, [list(step) for step in told]), True)
        losses = [[("z", 0, 2)]] * 9
        self.assertEqual(len(run_by(program, plan, 9, losses)), len(run_by_words(program, plan, 9, losses)))
        self.assertEqual(len(edited(program, plan, feed, "x", "o")), 121)


class ArgumentsTest(unittest.TestCase):
    def test_programs_and_plans_that_are_none(self):
        calls = [
            lambda *told: values_by(*told, None), works, lambda *told: needs(*told, None), distances,
            lambda *told: is_run(*told, None, None), lambda *told: run_by(*told, None, None), lambda *told: trace(*told, None, None),
            lambda *told: is_trace(*told, None, None, None), lambda *told: steps_at_least(*told, None),
            lambda *told: steps_at_most(*told, None), lambda *told: edited(*told, None, None, None),
        ]
        for wrong in strange_objects() + [None, sign_base(), INPUTS, "input x p"]:
            for call in calls + [result_of, is_feed]:
                with self.assertRaises(InvalidProgram) as caught:
                    call(wrong, None)
                self.assertIs(caught.exception.value, wrong)
        plan = plain_plan(two_program())
        for wrong in strange_objects() + strange_folds() + [
            {"r": [(0, 2)], "t": [(0, 3), (1, 3)]}, {**plan, "x": []}, {"t": plan["t"]}, {**plan, "r": [(False, 2)]}, {**plan, "r": ((0, 2),)},
        ]:
            for call in calls:
                with self.assertRaises(InvalidPlan) as caught:
                    call(two_program(), wrong)
                self.assertIs(caught.exception.value, wrong)

    def test_one_program_with_several_plans_and_feeds_in_turns(self):
        program = long_program()
        plans = [{"t": [(0, 2), (0, 4), (2, 4)]}, plain_plan(program)]
        feeds = [FEED, {**FEED, "z": "o"}, {**FEED, "x": "o", "y": "o"}]
        wanted = [[trace(long_program(), plan, feed, 2) for feed in feeds] for plan in plans]
        for _ in range(2):
            for plan, told in zip(plans, wanted):
                for feed, steps in zip(feeds, told):
                    made = trace(program, plan, feed, 2)
                    self.assertEqual(made, steps)
                    made[0].clear()
                    works(program, plan).clear()
                    needs(program, plan, ("t", 0, 4)).clear()
                    distances(program, plan).clear()
                    run_by(program, plan, 2, [])[0].clear()
        self.assertEqual(trace(program, plans[0], FEED, 2), wanted[0][0])


if __name__ == "__main__":
    unittest.main()
