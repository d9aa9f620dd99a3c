"""Section 15: programs."""

import unittest
from random import Random

from shiftfolds.errors import (
    InvalidBase, InvalidBlock, InvalidName, InvalidPlan, InvalidPrices, InvalidProgram, InvalidText, Refused, Unlike,
)
from shiftfolds.programs import (
    Program, cheapest_plan, expanded, flattened, inlined, is_cheapest_plan, is_plan, is_soonest_plan, kind_made, levels,
    merged, plain_plan, plan_price, program_text, read_program, soonest_plan, surely_alike, taken_out, trimmed,
)
from shiftfolds.rights import Base, kinds_base
from shiftfolds.typings import Kinds

from tests.folds import all_triples, class_by_deeds, groupings
from tests.helpers import signs, stop_typing, strange_folds, strange_objects
from tests.programs import (
    INPUTS, all_plans, bent_texts, even_base, fed_programs, folds_of, inputs_of, kinds_by_words, long_program,
    plain_by_words, plain_class, put_out, random_program, results, rows_of, side_by_side, sign_base, some_plans,
    some_programs, two_program,
)
from tests.test_prices import cost_by_words, flat_prices, some_prices

HALVES = [(0, 2), (0, 4), (2, 4)]
NO_NAMES = [None, True, 1, "", "X", "x ", "nothing", "input", ["x"], ("x",), {"x": "x"}, "abcdefghi", b"", {}, [], ()]


def of_lines(lines, base=None):
    return Program(base or sign_base(), INPUTS + lines)


class ExamplesTest(unittest.TestCase):
    def test_stop(self):
        long, two = long_program(), two_program()
        self.assertEqual([kind_made(two, "r"), expanded(two), surely_alike(long, two)], ["a", (["x", "y", "z", "w"], HALVES), True])
        self.assertEqual([inlined(two, "r") == long, flattened(two) == long, taken_out(long, "t", 2, 4, "r") == two], [True] * 3)
        self.assertEqual([is_plan(long, {"t": HALVES}), levels(long, {"t": HALVES})["t"]], [True, 2])
        self.assertEqual([levels(long, plain_plan(long))["t"], is_soonest_plan(long, {"t": HALVES})], [3, True])
        self.assertEqual(cheapest_plan(long, {pair: (0, 1, 0) for pair in signs().table()}), {"t": HALVES})
        again = of_lines([("fold", "r", ["x", "y"]), ("fold", "s", ["x", "y"]), ("fold", "t", ["r", "s"])])
        self.assertEqual([line[1:] for line in merged(again).lines()[4:]], [("r", ["x", "y"]), ("t", ["r", "r"])])
        self.assertEqual(expanded(again)[0], ["x", "y", "x", "y"])
        short = Program(sign_base(), INPUTS[:1] + [("fold", "t", ["x", "x"])])
        self.assertEqual(program_text(short), "input x p\nfold t x x")
        self.assertEqual(read_program(sign_base(), "input x p\nfold t x x").lines()[1], ("fold", "t", ["x", "x"]))


class ProgramTest(unittest.TestCase):
    def test_lines_and_base(self):
        lines = INPUTS + [("fold", "r", ["z", "w"]), ("fold", "s", ["r"]), ("fold", "t", ["s", "s", "x"]), ("input", "u", "a")]
        program = Program(lines=lines, base=sign_base())
        self.assertEqual(program.lines(), lines)
        self.assertTrue(program.base() == sign_base())
        self.assertEqual(Program(sign_base(), [("input", "fold", "p"), ("fold", "input", ["fold"])]).lines()[1][1], "input")

    def test_equal_exactly_if_base_and_lines_are(self):
        one = two_program()
        self.assertTrue(one == two_program() and one == one and not one != two_program())
        swapped = Program(sign_base(), [INPUTS[1], INPUTS[0]] + INPUTS[2:] + one.lines()[4:])
        others = [
            long_program(), two_program(sign_base("left")), two_program(Base(stop_typing(), [], "right")), swapped,
            of_lines([("fold", "r", ["z", "w"]), ("fold", "t", ["x", "r", "y"])]), of_lines([("fold", "t", ["x", "y"])]),
        ]
        for other in others + strange_objects() + strange_folds() + [one.lines(), one.base()]:
            self.assertTrue(one != other)
            self.assertFalse(one == other)
            self.assertFalse(other == one)

    def test_lines_that_are_none(self):
        base, kind = sign_base(), "p"
        wrong = strange_objects() + strange_folds() + [
            [], (("input", "x", "p"),), [["input", "x", "p"]], [("input", "x")], [("input", "x", "p", "p")], [("Input", "x", "p")],
            [("input", "x", "b")], [("input", "x", ["p"])], [("input", "X", "p")], [("input", "", "p")], [("input", "abcdefghi", "p")],
            [("input", 1, "p")], [("input", ["x"], "p")], [("input", "x", None)], [("input", "x", True)], [None], [()], "input x p",
            [("fold", "t", [])], [("fold", "t", ["t"])], {0: ("input", "x", "p")}, [("input", "x", "p"), None], ["input x p"],
            [("input", "x", kind), ("input", "x", kind)], [("input", "x", kind), ("fold", "x", ["x"])], [(1, "x", "p")],
            [("input", "x", kind), ("fold", "t", [])], [("input", "x", kind), ("fold", "t", ("x",))],
            [("input", "x", kind), ("fold", "t", "x")], [("input", "x", kind), ("fold", "t", ["y"])], [(["input"], "x", "p")],
            [("input", "x", kind), ("fold", "t", ["x", "t"])], [("fold", "t", ["x"]), ("input", "x", kind)],
            [("input", "x", kind), ("fold", "t", ["x", ["x"]])], [("input", "x", kind), ("fold", "t", ["x", 1])],
            [("input", "x", kind), ("fold", "t", {"x": "x"})], [("input", "x", kind), ("fold", "t")],
            [("input", "x", kind), ("fold", "t", ["x"], ["x"])], [("input", "x", kind), ["fold", "t", ["x"]]],
            [("input", "x", kind), ("fold", "t", ["x"]), ("fold", "t", ["x"])], [("input", "x", kind), ("put", "t", ["x"])],
        ]
        for lines in wrong:
            for call in [lambda: Program(base, lines), lambda: Program(base=base, lines=lines)]:
                with self.assertRaises(InvalidProgram, msg=lines) as caught:
                    call()
                self.assertIs(caught.exception.value, lines)
        for told in strange_objects() + [None, stop_typing(), two_program()]:
            with self.assertRaises(InvalidBase) as caught:
                Program(told, None)
            self.assertIs(caught.exception.value, told)

    def test_kinds_made(self):
        for program in some_programs():
            made = kinds_by_words(program)
            for name in made:
                self.assertEqual(kind_made(program, name), made[name])
        for wrong in NO_NAMES:
            with self.assertRaises(InvalidName) as caught:
                kind_made(two_program(), wrong)
            self.assertIs(caught.exception.value, wrong)


class RewrittenTest(unittest.TestCase):
    def test_trimmed(self):
        for program in some_programs(120):
            wanted, lines = {program.lines()[-1][1]}, program.lines()
            for _ in lines:
                wanted |= {part for name, names in folds_of(program).items() if name in wanted for part in names}
            self.assertEqual(trimmed(program).lines(), [line for line in lines if line[1] in wanted])
            self.assertTrue(trimmed(program).base() == program.base())
            self.assertTrue(trimmed(trimmed(program)) == trimmed(program))
        program = of_lines([("fold", "r", ["x", "z"]), ("fold", "s", ["r", "w"]), ("fold", "t", ["r"]), ("fold", "u", ["t", "t"])])
        self.assertEqual([line[1] for line in trimmed(program).lines()], ["x", "z", "r", "t", "u"])
        self.assertEqual(trimmed(of_lines([("fold", "r", ["x", "z"]), ("input", "u", "a")])).lines(), [("input", "u", "a")])

    def test_expanded(self):
        for program in some_programs(120):
            self.assertEqual(expanded(program), put_out(program, program.lines()[-1][1]))
        program = of_lines([("fold", "r", ["y"]), ("fold", "s", ["x", "r"]), ("fold", "t", ["s", "r", "s", "z"])])
        self.assertEqual(expanded(program), (["x", "y", "y", "x", "y", "z"], [(0, 2), (0, 3), (0, 5), (0, 6), (3, 5)]))
        self.assertEqual(expanded(of_lines([("fold", "r", ["y"]), ("fold", "s", ["r"])])), (["y"], []))
        self.assertEqual(expanded(of_lines([])), (["w"], []))

    def test_lines_that_nothing_hangs_on_are_not_expanded(self):
        lines = [("fold", "a", ["x"] * 12)]
        for one, other in zip("abcdefghij", "bcdefghijk"):
            lines.append(("fold", other, [one] * 12))
        program = Program(sign_base(), INPUTS[:1] + lines + [("fold", "z", ["x"] * 12)])
        self.assertEqual(expanded(program), (["x"] * 12, plain_by_words(12)))
        self.assertIs(surely_alike(program, program), True)
        self.assertEqual(len(trimmed(program).lines()), 2)

    def test_surely_alike(self):
        told = {True: 0, False: 0}
        for seed in range(150):
            base = [sign_base(), even_base(), kinds_base(signs(), all_triples(signs()), "left")][seed % 3]
            one = random_program(base, seed, 4, 6, 6)
            others = [flattened(one), merged(one), trimmed(one) if inputs_of(trimmed(one)) == inputs_of(one) else one]
            others.append(shuffled(one, seed))
            for other in others + [last_regrouped(one, seed)]:
                names, grouping = put_out(one, one.lines()[-1][1])
                more, second = put_out(other, other.lines()[-1][1])
                made = kinds_by_words(one)
                row = [made[name] for name in names]
                found = class_by_deeds(base.typed().kinds(), base.triples(), row, grouping)
                wanted = names == more and tuple(second) in found
                self.assertIs(surely_alike(one, other), wanted)
                told[wanted] += 1
        self.assertTrue(min(told.values()) > 20, told)

    def test_unlike_programs(self):
        one = two_program()
        swapped = Program(sign_base(), INPUTS[::-1] + one.lines()[4:])
        self.assertIs(surely_alike(one, swapped), True)
        last = Program(sign_base(), one.lines() + [("input", "u", "p")])
        others = [
            two_program(sign_base("left")), Program(sign_base(), one.lines()[:4] + [("input", "u", "p")]), last, trimmed(last),
            Program(sign_base(), INPUTS[:3]), Program(sign_base(), [("input", "x", "n")] + INPUTS[1:] + one.lines()[4:]),
        ]
        for other in others:
            for two in [(one, other), (other, one)]:
                with self.assertRaises(Unlike) as caught:
                    surely_alike(*two)
                self.assertIs(caught.exception.value, two[1])
        for wrong in [None, one.lines(), "x", sign_base()]:
            for two in [(wrong, None), (one, wrong)]:
                with self.assertRaises(InvalidProgram) as caught:
                    surely_alike(*two)
                self.assertIs(caught.exception.value, wrong)

    def test_alike_results_of_surely_alike_ones(self):
        many = 0
        for program in fed_programs(120):
            for other in [flattened(program), merged(program)]:
                self.assertIs(surely_alike(program, other), True)
                self.assertEqual(results(program), results(other))
                many += program != other
        self.assertTrue(many > 10, many)


def shuffled(program, seed):
    """The program with its inputs ahead, in another order."""
    inputs = [line for line in program.lines() if line[0] == "input"]
    Random(seed).shuffle(inputs)
    return Program(program.base(), inputs + [line for line in program.lines() if line[0] == "fold"][:] or inputs)


def last_regrouped(program, seed):
    """The program with a stretch of its last fold in a fold of its own, let or not."""
    chance, lines = Random(seed), program.lines()
    word, name, names = lines[-1]
    if word == "input" or len(names) < 3:
        return program
    first = chance.randrange(len(names) - 1)
    end = chance.randint(first + 2, len(names)) if first else chance.randint(2, len(names) - 1)
    inner = ("fold", "inner", names[first:end])
    return Program(program.base(), lines[:-1] + [inner, ("fold", name, names[:first] + ["inner"] + names[end:])])


def can_be_put_in(program, name):
    """Whether a fold can be put in, by the words of [88]."""
    folds = folds_of(program)
    places = [(fold, at) for fold, names in folds.items() for at, part in enumerate(names) if part == name]
    if len(places) != 1:
        return False
    fold, at = places[0]
    names, inner = folds[fold], folds[name]
    longer = names[:at] + inner + names[at + 1:]
    parts = [([part], []) for part in names]
    parts[at] = side_by_side([([part], []) for part in inner])
    made = kinds_by_words(program)
    return tuple(side_by_side(parts)[1]) in plain_class(program, [made[part] for part in longer])


def put_in_by_words(program, name):
    found, inner = [], folds_of(program)[name]
    for line in program.lines():
        if line[0] == "fold" and name in line[2]:
            at = line[2].index(name)
            line = ("fold", line[1], line[2][:at] + inner + line[2][at + 1:])
        if line[1] != name:
            found.append(line)
    return Program(program.base(), found)


class PutInTest(unittest.TestCase):
    def test_each_fold_of_each_program(self):
        told = {True: 0, False: 0}
        for program in some_programs(150):
            for name in list(folds_of(program)) + list(inputs_of(program)):
                if name in inputs_of(program) or name == program.lines()[-1][1]:
                    with self.assertRaises(InvalidName) as caught:
                        inlined(program, name)
                    self.assertIs(caught.exception.value, name)
                    continue
                can_be = can_be_put_in(program, name)
                told[can_be] += 1
                if can_be:
                    self.assertTrue(inlined(program, name) == put_in_by_words(program, name))
                else:
                    with self.assertRaises(Refused) as caught:
                        inlined(program, name)
                    self.assertIs(caught.exception.value, name)
        self.assertTrue(min(told.values()) > 30, told)

    def test_flattened_one_by_one(self):
        changed = 0
        for program in some_programs(150):
            at = program
            while True:
                names = [name for name in folds_of(at) if name != at.lines()[-1][1] and can_be_put_in(at, name)]
                if not names:
                    break
                at = put_in_by_words(at, names[0])
            self.assertTrue(flattened(program) == at)
            changed += at != program
        self.assertTrue(changed > 20, changed)

    def test_by_hand(self):
        program = of_lines([("fold", "r", ["z"]), ("fold", "s", ["x", "r"]), ("fold", "t", ["s", "w", "y"])])
        self.assertEqual(inlined(program, "r").lines()[4:], [("fold", "s", ["x", "z"]), ("fold", "t", ["s", "w", "y"])])
        self.assertEqual(inlined(program, "s").lines()[4:], [("fold", "r", ["z"]), ("fold", "t", ["x", "r", "w", "y"])])
        self.assertEqual(flattened(program).lines()[4:], [("fold", "t", ["x", "z", "w", "y"])])
        twice = of_lines([("fold", "r", ["x", "y"]), ("fold", "t", ["r", "r"])])
        self.assertTrue(flattened(twice) == twice)
        # p, n, n may not be shifted: the block behind stays
        stays = of_lines([("fold", "r", ["z", "z"]), ("fold", "t", ["x", "r"])])
        self.assertRaises(Refused, inlined, stays, "r")
        self.assertTrue(flattened(stays) == stays)
        none = of_lines([("fold", "r", ["x", "y"]), ("fold", "t", ["z", "w"])])
        self.assertRaises(Refused, inlined, none, "r")

    def test_what_stands_behind_may_join_what_is_apart_alone(self):
        kinds = Kinds({(x, y): "a" for x in "ab" for y in "ab"})
        base = kinds_base(kinds, [("a", "b", "a"), ("b", "a", "a")], "right")
        inputs = [("input", "x", "b"), ("input", "y", "a"), ("input", "z", "b"), ("input", "w", "a"), ("fold", "r", ["y", "z"])]
        told = []
        for behind in [["w"], [], ["x"], ["w", "w"], ["w", "x"], ["x", "w"]]:
            program = Program(base, inputs + [("fold", "t", ["x", "r"] + behind)])
            can_be = can_be_put_in(program, "r")
            told.append(can_be)
            whole = Program(base, inputs[:4] + [("fold", "t", ["x", "y", "z"] + behind)])
            if can_be:
                self.assertTrue(inlined(program, "r") == whole and flattened(program) == whole)
                self.assertTrue(taken_out(whole, "t", 1, 3, "r") == program)
                continue
            self.assertRaises(Refused, inlined, program, "r")
            self.assertTrue(flattened(program) == program)
            self.assertRaises(Refused, taken_out, whole, "t", 1, 3, "r")
        self.assertEqual(told[:3], [True, False, False])

    def test_names_that_are_none(self):
        program = two_program()
        for wrong in NO_NAMES + ["x", "t"]:
            with self.assertRaises(InvalidName) as caught:
                inlined(program, wrong)
            self.assertIs(caught.exception.value, wrong)

    def test_greatest_programs(self):
        base = kinds_base(signs(), all_triples(signs()), "right")
        lines = [("fold", "aa", ["x"] * 2)]
        for at in range(1, 11):
            lines.append(("fold", "a" + "abcdefghijkl"[at], ["a" + "abcdefghijkl"[at - 1], "x"]))
        program = Program(base, INPUTS[:1] + lines)
        self.assertEqual(flattened(program).lines()[1:], [("fold", "ak", ["x"] * 12)])
        # lines that the result does not hang on may grow beyond twelve names
        lines = [("fold", "aa", ["x"] * 12)]
        for at in range(1, 10):
            lines.append(("fold", "a" + "abcdefghijkl"[at], ["a" + "abcdefghijkl"[at - 1]] + ["x"] * 11))
        program = Program(base, INPUTS[:1] + lines + [("fold", "z", ["x", "x"])])
        self.assertEqual(len(flattened(program).lines()[1][2]), 12 + 9 * 11)


class TakenOutTest(unittest.TestCase):
    def test_each_stretch_of_each_fold(self):
        told = {True: 0, False: 0}
        for program in some_programs(100)[::2]:
            for name, names in folds_of(program).items():
                for first in range(len(names) + 1):
                    for end in range(len(names) + 2):
                        self.check(program, name, names, first, end, told)
        self.assertTrue(min(told.values()) > 30, told)

    def check(self, program, name, names, first, end, told):
        if not (first + 2 <= end <= len(names) and end - first < len(names)):
            with self.assertRaises(InvalidBlock) as caught:
                taken_out(program, name, first, end, "")
            self.assertEqual(caught.exception.value, (first, end))
            return
        parts = [([part], []) for part in names]
        parts[first:end] = [side_by_side(parts[first:end])]
        can_be = tuple(side_by_side(parts)[1]) in plain_class(program, rows_of(program)[name])
        told[can_be] += 1
        if not can_be:
            with self.assertRaises(Refused) as caught:
                taken_out(program, name, first, end, "newer")
            self.assertEqual(caught.exception.value, (first, end))
            return
        made, at = taken_out(program, name, first, end, "newer"), program.lines().index(("fold", name, names))
        lines = program.lines()
        lines[at:at + 1] = [("fold", "newer", names[first:end]), ("fold", name, names[:first] + ["newer"] + names[end:])]
        self.assertEqual(made.lines(), lines)
        self.assertTrue(inlined(made, "newer") == program)

    def test_refusals_in_order(self):
        program = long_program()
        for wrong in NO_NAMES + ["x", "w"]:
            with self.assertRaises(InvalidName) as caught:
                taken_out(program, wrong, None, None, None)
            self.assertIs(caught.exception.value, wrong)
        for first, end in [
            (0, 1), (0, 4), (2, 5), (1, 1), (3, 2), (-1, 2), (True, 3), (False, 2), (1, True), ("0", 2), (None, 3), ([0], 2), (0, 10 ** 30),
            ((0, 2), 3), (0, None), (3, 4), (4, 6),
        ]:
            with self.assertRaises(InvalidBlock) as caught:
                taken_out(program, "t", first, end, None)
            self.assertIsInstance(caught.exception.value, tuple)
            self.assertIs(caught.exception.value[0], first)
            self.assertIs(caught.exception.value[1], end)
        for wrong in [None, "", "X", "x", "t", "w", 1, True, ["r"], ("r",), "abcdefghi", "r ", {}]:
            for first, end in [(2, 4), (1, 3)]:
                with self.assertRaises(InvalidName) as caught:
                    taken_out(program, "t", first, end, wrong)
                self.assertIs(caught.exception.value, wrong)
        with self.assertRaises(Refused) as caught:
            taken_out(program, "t", 1, 3, "r")
        self.assertEqual(caught.exception.value, (1, 3))
        self.assertTrue(program == long_program())
        self.assertEqual(taken_out(long_program(), "t", 0, 2, "fold").lines()[4:], [("fold", "fold", ["x", "y"]), ("fold", "t", ["fold", "z", "w"])])


def merged_by_words(lines):
    found, stays, sent = [], {}, {}
    for at, line in enumerate(lines):
        if line[0] == "fold":
            names = [sent.get(name, name) for name in line[2]]
            if at < len(lines) - 1 and str(names) in stays:
                sent[line[1]] = stays[str(names)]
                continue
            stays.setdefault(str(names), line[1])
            line = ("fold", line[1], names)
        found.append(line)
    return found


class MergedTest(unittest.TestCase):
    def test_each_program(self):
        changed = 0
        for seed in range(900):
            program = random_program(sign_base(), seed, 2, 9, 9)
            made = merged(program)
            self.assertEqual(made.lines(), merged_by_words(program.lines()))
            self.assertTrue(merged(made) == made)
            changed += made != program
        self.assertTrue(changed > 20, changed)

    def test_by_hand(self):
        program = of_lines([
            ("fold", "r", ["x", "y"]), ("fold", "s", ["x", "y"]), ("fold", "t", ["r", "s"]), ("fold", "u", ["s", "r"]),
            ("fold", "v", ["u", "s"]), ("fold", "k", ["y", "x"]), ("fold", "m", ["t", "s"]), ("fold", "n", ["r", "r"]),
        ])
        self.assertEqual(merged(program).lines()[4:], [
            ("fold", "r", ["x", "y"]), ("fold", "t", ["r", "r"]), ("fold", "v", ["t", "r"]), ("fold", "k", ["y", "x"]),
            ("fold", "n", ["r", "r"]),
        ])
        self.assertEqual(merged(of_lines([("fold", "r", ["x"]), ("fold", "s", ["x"])])).lines()[4:], [("fold", "r", ["x"]), ("fold", "s", ["x"])])
        self.assertTrue(merged(two_program()) == two_program())


class PlanTest(unittest.TestCase):
    def test_plain_plans(self):
        for program in some_programs():
            told = plain_plan(program)
            self.assertEqual(list(told.items()), [(name, plain_by_words(len(names))) for name, names in folds_of(program).items()])
            self.assertIs(is_plan(program, told), True)

    def test_plans_by_all_groupings_of_each_fold(self):
        told = {True: 0, False: 0}
        for program in some_programs(400, 5, 8)[::2]:
            rows, plan = rows_of(program), plain_plan(program)
            for name, row in rows.items():
                found = plain_class(program, row)
                for grouping in groupings(len(row)):
                    told[grouping in found] += 1
                    self.assertIs(is_plan(program, {**plan, name: list(grouping)}), grouping in found)
                for wrong in [groupings(len(row) + 1)[0], tuple(plan[name]), None, {}, [None], [(False, 2)], plan]:
                    self.assertIs(is_plan(program, {**plan, name: wrong}), False)
                self.assertIs(is_plan(program, {other: plan[other] for other in plan if other != name}), False)
            for wrong in [list(plan.items()), {**plan, "nothing": []}, {**plan, "x": []}, None, {**plan, 1: []}]:
                self.assertIs(is_plan(program, wrong), False)
            self.assertIs(is_plan(program, dict(reversed(list(plan.items())))), True)
        self.assertTrue(min(told.values()) > 100, told)

    def test_any_object(self):
        program, none = two_program(), of_lines([])
        self.assertEqual([plain_plan(none), is_plan(none, {}), levels(none, {})], [{}, True, {"x": 0, "y": 0, "z": 0, "w": 0}])
        right = {"r": [(0, 2)], "t": [(0, 2), (0, 3)]}
        self.assertIs(is_plan(program, right), True)
        bent = [
            {"r": [(0, 2)], "t": [(0, 2), (False, 3)]}, {"r": [(0, 2)], "t": ((0, 2), (0, 3))}, {"r": [[0, 2]], "t": [(0, 2), (0, 3)]},
            {"r": [(0, 2)], "t": [(0, 3), (0, 2)]}, {"r": [(0, 2)], "t": [(0, 3), (1, 3)]}, {"r": [(0, 2)], ("t",): right["t"]},
        ]
        for wrong in strange_objects() + strange_folds() + bent:
            self.assertIs(is_plan(program, wrong), False)
            for call in [lambda x: levels(program, x), lambda x: plan_price(program, x, None)]:
                with self.assertRaises(InvalidPlan) as caught:
                    call(wrong)
                self.assertIs(caught.exception.value, wrong)
            self.assertIs(is_cheapest_plan(program, flat_prices(sign_base()), wrong), False)
            self.assertIs(is_soonest_plan(program, wrong), False)

    def test_prices_by_all_plans(self):
        for at, program in enumerate(some_programs(40, 3, 5)):
            base, prices = program.base(), some_prices(program.base(), at)
            rows = rows_of(program)
            costs = []
            for plan in all_plans(program)[:400]:
                costs.append(sum(cost_by_words(base, rows[name], plan[name], prices) for name in rows))
                self.assertEqual(plan_price(program, plan, prices), costs[-1])
            told = cheapest_plan(program, prices)
            self.assertEqual(list(told), list(rows))
            if len(costs) < 400:
                self.assertEqual(plan_price(program, told, prices), min(costs))
                for plan, cost in zip(all_plans(program)[::3], costs[::3]):
                    self.assertIs(is_cheapest_plan(program, prices, plan), cost == min(costs))
            self.assertIs(is_cheapest_plan(program, prices, told), True)
            self.assertIs(is_cheapest_plan(program, prices, dict(reversed(list(told.items())))), True)

    def test_prices_that_are_none(self):
        program, right = two_program(), flat_prices(sign_base())
        plan = plain_plan(program)
        self.assertEqual(plan_price(program, plan, right), 3)
        for wrong in [None, {}, flat_prices(even_base()), {**right, ("p", "p"): (1, 0, True)}, {**right, "x": (0, 0, 0)}, list(right.items())]:
            for call in [
                lambda: plan_price(program, plan, wrong), lambda: cheapest_plan(program, wrong),
                lambda: is_cheapest_plan(program, wrong, plan), lambda: is_cheapest_plan(program, prices=wrong, value=None),
            ]:
                with self.assertRaises(InvalidPrices) as caught:
                    call()
                self.assertIs(caught.exception.value, wrong)


def levels_by_words(program, plan):
    found = {}
    for word, name, told in program.lines():
        if word == "input":
            found[name] = 0
            continue
        things = [found[part] for part in told]
        deep = {(at, at + 1): level for at, level in enumerate(things)}
        for first, end in sorted(plan[name], key=lambda block: block[1] - block[0]):
            mids = [mid for mid in range(first + 1, end) if (first, mid) in deep and (mid, end) in deep]
            deep[(first, end)] = 1 + max(deep[(first, mids[0])], deep[(mids[0], end)])
        found[name] = deep[(0, len(told))]
    return found


class LevelTest(unittest.TestCase):
    def test_soonest_by_all_plans(self):
        apart = 0
        for program in some_programs(400, 5, 8):
            plans = all_plans(program)
            if len(plans) > 120:
                continue
            last, told = program.lines()[-1][1], [levels_by_words(program, plan) for plan in plans]
            least = min(each[last] for each in told)
            for plan, each in zip(plans, told):
                self.assertEqual(list(levels(program, plan).items()), list(each.items()))
                self.assertIs(is_soonest_plan(program, plan), each[last] == least)
                apart += each[last] != least
            found = soonest_plan(program)
            self.assertIs(is_soonest_plan(program, found), True)
            self.assertEqual(levels_by_words(program, found)[last], least)
            # EVERY name is as soon as can be
            self.assertEqual(levels_by_words(program, found), {name: min(each[name] for each in told) for name in told[0]})
        self.assertTrue(apart > 50, apart)

    def test_not_always_a_flattest_grouping(self):
        base = kinds_base(signs(), all_triples(signs()), "right")
        late = [("input", "x", "p"), ("fold", "r", ["x"] * 4), ("fold", "s", ["r", "r"]), ("fold", "t", ["x", "x", "x", "s"])]
        program = Program(base, late)
        self.assertEqual([levels(program, soonest_plan(program))[name] for name in "xrst"], [0, 2, 3, 4])
        flat = {**soonest_plan(program), "t": HALVES}
        self.assertEqual([levels(program, flat)["t"], is_soonest_plan(program, flat)], [5, False])
        self.assertIs(is_soonest_plan(program, {**soonest_plan(program), "r": plain_by_words(4)}), False)

    def test_plans_of_lines_that_the_result_does_not_hang_on(self):
        base = kinds_base(signs(), all_triples(signs()), "right")
        program = Program(base, INPUTS + [("fold", "r", ["x"] * 4), ("fold", "t", ["x", "y"])])
        self.assertIs(is_soonest_plan(program, {"r": plain_by_words(4), "t": [(0, 2)]}), True)
        self.assertEqual(levels(program, soonest_plan(program))["r"], 2)

    def test_great_programs(self):
        base = kinds_base(signs(), all_triples(signs()), "right")
        lines = INPUTS[:1] + [("fold", name, ["x"] * 9) for name in "abcdefghij"] + [("fold", "z", list("abcdefghi"))]
        program = Program(base, lines)
        prices = {pair: (7, 10 ** 9, 1) for pair in signs().table()}
        plan = soonest_plan(program)
        self.assertIs(is_soonest_plan(program, plan), True)
        self.assertEqual(levels(program, plan)["z"], 8)
        self.assertIs(is_cheapest_plan(program, prices, cheapest_plan(program, prices)), True)


def is_text(names, text):
    """Whether a text is one of a program, by the words of [93]."""
    known = set()
    for line in text.split("\n"):
        pieces = line.split(" ")
        if len(pieces) < 3 or not all(piece and set(piece) <= set("abcdefghijklmnopqrstuvwxyz") for piece in pieces[:2]):
            return False
        if len(pieces[1]) > 8 or pieces[1] in known:
            return False
        if pieces[0] == "input" and not (len(pieces) == 3 and pieces[2] in names):
            return False
        if pieces[0] == "fold" and not set(pieces[2:]) <= known:
            return False
        if pieces[0] not in ("input", "fold"):
            return False
        known.add(pieces[1])
    return True


class TextTest(unittest.TestCase):
    def test_there_and_back(self):
        for program in some_programs(80) + [two_program(), of_lines([])]:
            text = program_text(program)
            lines = [f"{word} {name} {told if word == 'input' else ' '.join(told)}" for word, name, told in program.lines()]
            self.assertEqual(text, "\n".join(lines))
            self.assertTrue(read_program(program.base(), text) == program)

    def test_bent_texts(self):
        told = {True: 0, False: 0}
        for program in [two_program(), of_lines([("fold", "fold", ["x"]), ("fold", "input", ["fold", "fold"])])] + some_programs(8):
            names = program.base().typed().kinds().names()
            for text in bent_texts(program_text(program)):
                holds = is_text(names, text)
                told[holds] += 1
                if holds:
                    self.assertEqual(program_text(read_program(program.base(), text)), text)
                    continue
                with self.assertRaises(InvalidText) as caught:
                    read_program(program.base(), text)
                self.assertIs(caught.exception.value, text)
        self.assertTrue(min(told.values()) > 30, told)

    def test_any_object(self):
        for wrong in strange_objects() + strange_folds() + ["", "input x p\n", "input  x p", None, two_program(), ["input x p"], "input x b"]:
            with self.assertRaises(InvalidText) as caught:
                read_program(sign_base(), wrong)
            self.assertIs(caught.exception.value, wrong)
        for wrong in [None, "input x p", two_program(), stop_typing()]:
            with self.assertRaises(InvalidBase) as caught:
                read_program(wrong, None)
            self.assertIs(caught.exception.value, wrong)


class ArgumentsTest(unittest.TestCase):
    def test_programs_that_are_none(self):
        calls = [
            trimmed, expanded, flattened, merged, plain_plan, soonest_plan, program_text, lambda x: kind_made(x, None),
            lambda x: surely_alike(x, None), lambda x: inlined(x, None), lambda x: taken_out(x, None, None, None, None),
            lambda x: is_plan(x, None), lambda x: plan_price(x, None, None), lambda x: cheapest_plan(x, None),
            lambda x: is_cheapest_plan(x, None, None), lambda x: levels(x, None), lambda x: is_soonest_plan(x, None),
        ]
        for wrong in strange_objects() + [None, sign_base(), INPUTS, "input x p", (two_program(),)]:
            for call in calls:
                with self.assertRaises(InvalidProgram) as caught:
                    call(wrong)
                self.assertIs(caught.exception.value, wrong)

    def test_what_is_passed_and_returned_may_be_changed(self):
        lines = INPUTS + [("fold", "r", ["z", "w"]), ("fold", "t", ["x", "y", "r"])]
        inner = lines[4][2]
        program = Program(sign_base(), lines)
        inner.append("x")
        lines.append(None)
        self.assertTrue(program == two_program())
        for told in [program.lines(), trimmed(program).lines(), flattened(program).lines(), merged(program).lines()]:
            told[-1][2].append("x")
            told.clear()
        names, grouping = expanded(program)
        names.clear()
        grouping.clear()
        for plan in [plain_plan(program), soonest_plan(program), cheapest_plan(program, flat_prices(sign_base()))]:
            plan["t"].clear()
            plan.clear()
        self.assertTrue(program == two_program())
        self.assertEqual([expanded(program), plain_plan(program)], [expanded(two_program()), plain_plan(two_program())])
        self.assertIsNot(program.lines()[-1][2], program.lines()[-1][2])

    def test_plans_and_rows_in_turns(self):
        base = sign_base()
        programs = [two_program(base), long_program(base), random_program(base, 5), random_program(base, 9)]
        wanted = [soonest_plan(program) for program in programs]
        for _ in range(2):
            for program, plan in zip(programs, wanted):
                self.assertEqual(soonest_plan(program), plan)
                for told in some_plans(program, 1):
                    self.assertIs(is_plan(program, told), True)


if __name__ == "__main__":
    unittest.main()
