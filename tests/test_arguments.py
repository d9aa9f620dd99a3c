"""Section 1: wrong arguments, arguments that stay as they were, and equal results of equal calls."""

import unittest
from itertools import product

from shiftfolds import (
    classes, edits, equals, errors, folding, hands, operations, prices, rights, shifts, typings,
)
from shiftfolds.operations import Operation
from shiftfolds.rights import Base
from shiftfolds.typings import Kinds, Typing

from tests.folds import SIGN_TRIPLES
from tests.helpers import (
    signs, signs_holding, signs_table, snapshot, stop, stop_table, stop_typing, strange_folds, strange_objects,
)


def same(one, other):
    return snapshot(one) == snapshot(other)


def among(*right):
    return lambda x: any(same(x, each) for each in right)


def none_of_them(x):
    return False


def sign_base():
    return Base(stop_typing(), SIGN_TRIPLES, "right")


def four_row():
    return ["p", "p", "n", "p"]


def tower():
    return [(0, 2), (0, 3), (0, 4)]


def halves():
    return [(0, 2), (0, 4), (2, 4)]


def some_prices():
    return {pair: (1, 2 * (pair[0] == "p"), 3) for pair in signs().table()}


def whole_grouping(x):
    """Whether an object is right where a grouping of any number of things is asked."""
    return isinstance(x, list) and shifts.is_grouping(len(x) + 1, x)


# Each parameter: its name, the word of its error (None: any object is judged), a right object, and what else is right.
OPERATION = ("operation", "InvalidOperation", stop, lambda x: isinstance(x, Operation))
KINDS = ("kinds", "InvalidKinds", signs, lambda x: isinstance(x, Kinds))
TYPED = ("typed", "InvalidTyping", stop_typing, lambda x: isinstance(x, Typing))
BASE = ("base", "InvalidBase", sign_base, lambda x: isinstance(x, Base))
HOLDING = ("holding", "InvalidHolding", signs_holding, none_of_them)
TOLD = ("told", "InvalidHolding", lambda: {"p": ["q"]}, among({}, {"p": ["q"]}))
JUDGED = ("value", None, lambda: None, lambda x: True)
IS_VALUE = lambda x: isinstance(x, str) and x in stop().names()
IS_VALUES = lambda x: isinstance(x, list) and len(x) > 0 and all(IS_VALUE(part) for part in x)
WORDS = (
    "values", "InvalidValue", lambda: ["b", "a", "c"], among(["q"], ["q", "m"], ["qq", "q"], ["p"], ["p", "x"]),
)
LIKENESS = [["m", "mm", "o", "q", "qq"]]
IS_TABLE = among({("a", "a"): "a"})
IS_WORD = among("a", "right", "abcdefgh")
SENT = {"m": "a", "mm": "b", "o": "c", "q": "d", "qq": "q"}
TRIPLE = ("triple", "InvalidTriples", lambda: ("p", "p", "n"), among(("p", "p", "p")))
TRIPLES = ("triples", "InvalidTriples", lambda: list(SIGN_TRIPLES), among([]))
WORD = ("word", "InvalidWord", lambda: "left", among("right"))
FOLDING = ("lists", "InvalidFolding", lambda: [["a"], ["n"], ["p"]], among([["a"], ["n"], ["p"]]))
ROW = ("row", "InvalidRow", four_row, among(["p"]))
GROUPING = ("grouping", "InvalidGrouping", tower, none_of_them)
ONE = ("one", "InvalidGrouping", tower, none_of_them)
OTHER = ("other", "InvalidGrouping", halves, none_of_them)
SIZE = ("size", "InvalidCount", lambda: 4, among(1, 2, 7, 10 ** 30))
FOLD = [BASE, ROW, GROUPING]
TWO = [BASE, ROW, ONE, OTHER]
SHIFTED = [KINDS, TRIPLES, ROW]
TYPED_TWO = [TYPED, ROW, ONE, OTHER]
PART_ONE = ("one", "InvalidGrouping", tower, none_of_them)
PART_OTHER = ("other", "InvalidGrouping", lambda: [(0, 4), (1, 4), (2, 4)], none_of_them)
INPUTS = ("inputs", "InvalidInputs", lambda: ["q", "qq", "mm", "q"], none_of_them)
PRICES = ("prices", "InvalidPrices", some_prices, none_of_them)
WEIGHTS = ("weights", "InvalidWeights", lambda: [5, 1, 1, 1], none_of_them)
ANY_GROUPING = ("grouping", "InvalidGrouping", halves, whole_grouping)
HANDS = ("hands", "InvalidHands", lambda: 2, among(1, 2, 7, 10 ** 30))
RUN = [ANY_GROUPING, HANDS]
LOSSES = ("losses", "InvalidLosses", lambda: [[(0, 2)]], among(
    [], [[]], [[], []], [[(0, 2)]], [[(0, 2)], [(0, 2)]],
))
LOST = ("lost", "InvalidCount", lambda: 2, lambda x: isinstance(x, int) and not isinstance(x, bool) and x >= 0)

CALLS = [
    (Operation, [("table", "InvalidOperation", stop_table, IS_TABLE)]),
    (operations.unlike_values, [OPERATION]),
    (operations.values_from, [OPERATION, ("values", "InvalidValue", lambda: ["m", "qq"], IS_VALUES)]),
    (operations.stopping_sums, [WORDS, ("zero", "InvalidCount", lambda: 2, among(0, 1, 2))]),
    (operations.differences, [WORDS]),
    (operations.swallowing, [OPERATION, ("value", "InvalidValue", lambda: "z", IS_WORD)]),
    (operations.opposite, [OPERATION]),
    (operations.renamed, [OPERATION, ("sent", "InvalidMap", lambda: dict(SENT), none_of_them)]),
    (operations.is_likeness, [OPERATION, JUDGED]),
    (operations.likeness_by, [
        OPERATION, ("pairs", "InvalidLikeness", lambda: [("o", "q")], among([], [("q", "q")])),
    ]),
    (operations.folded, [OPERATION, ("likeness", "InvalidLikeness", lambda: [list(LIKENESS[0])], none_of_them)]),
    (operations.bracket_likeness, [OPERATION]),
    (Kinds, [("table", "InvalidTable", signs_table, IS_TABLE)]),
    (Typing, [OPERATION, KINDS, HOLDING]),
    (typings.breaking, [OPERATION, KINDS, HOLDING]),
    (typings.is_breaking, [OPERATION, KINDS, HOLDING, JUDGED]),
    (typings.kinds_of_value, [TYPED, ("word", "InvalidValue", lambda: "q", IS_VALUE)]),
    (typings.least_holding, [OPERATION, KINDS, TOLD]),
    (typings.least_typing, [OPERATION, KINDS, TOLD]),
    (typings.kinds_typing, [KINDS]),
    (typings.finest_typing, [OPERATION]),
    (typings.likeness_steps, [OPERATION]),
    (typings.are_likeness_steps, [OPERATION, JUDGED]),
    (rights.right_triples, [TYPED]),
    (rights.is_right, [TYPED, TRIPLE]),
    (rights.parting_values, [TYPED, TRIPLE]),
    (rights.are_parting_values, [TYPED, TRIPLE, JUDGED]),
    (rights.is_settled, [KINDS, TRIPLES, WORD]),
    (rights.missing_triple, [KINDS, ("triples", "InvalidTriples", lambda: [("a", "p", "p")], among([])), WORD]),
    (rights.is_missing, [KINDS, TRIPLES, WORD, JUDGED]),
    (Base, [TYPED, TRIPLES, WORD]),
    (rights.right_base, [TYPED, WORD]),
    (rights.greatest_lots, [TYPED, WORD]),
    (rights.kinds_base, [KINDS, TRIPLES, WORD]),
    (rights.mirrored_base, [BASE]),
    (folding.is_folding, [KINDS, TRIPLES, JUDGED]),
    (folding.all_foldings, [KINDS, TRIPLES]),
    (folding.coarsest, [KINDS, TRIPLES]),
    (folding.apart, [KINDS, TRIPLES, ("one", "InvalidKind", lambda: "n", among("a")), (
        "other", "InvalidKind", lambda: "p", among("a"),
    )]),
    (folding.is_mark, [KINDS, TRIPLES, ("one", "InvalidKind", lambda: "n", among("a")), (
        "other", "InvalidKind", lambda: "p", among("a"),
    ), JUDGED]),
    (folding.folded_kinds, [KINDS, TRIPLES, FOLDING]),
    (folding.folded_triples, [KINDS, TRIPLES, FOLDING]),
    (folding.row_folded, [KINDS, TRIPLES, FOLDING, ROW]),
    (folding.folded_typing, [TYPED, FOLDING]),
    (shifts.is_row, [KINDS, JUDGED]),
    (shifts.is_grouping, [SIZE, JUDGED]),
    (shifts.plain, [SIZE]),
    (shifts.let_deeds, SHIFTED + [GROUPING]),
    (shifts.done, SHIFTED + [GROUPING, ("deed", "InvalidDeed", lambda: ("right", 0, 2, 3, 4), none_of_them)]),
    (shifts.is_chain, SHIFTED + [ONE, OTHER, JUDGED]),
    (shifts.joined, TWO),
    (shifts.chain_between, TWO),
    (shifts.hull, [KINDS, TRIPLES, WORD]),
    (shifts.side, [TYPED, ROW, ONE, OTHER]),
    (classes.last_of, FOLD),
    (classes.class_of, FOLD),
    (classes.are_joined, TWO),
    (classes.splits_of, FOLD),
    (classes.class_with, [
        BASE, ROW, ("one", "InvalidGrouping", lambda: [(0, 2)], among([], [(0, 2)], [(0, 2), (0, 3)])),
        ("other", "InvalidGrouping", lambda: [(0, 2)], among([(0, 2)])),
    ]),
    (classes.class_size, FOLD),
    (classes.size_by_splits, FOLD),
    (classes.class_number, [BASE, ROW]),
    (classes.class_at, FOLD + [("number", "InvalidCount", lambda: 1, among(0, 1))]),
    (classes.class_place, FOLD),
    (classes.coming, FOLD),
    (classes.comes, FOLD + [JUDGED]),
    (classes.lone_stretches, [BASE, ROW]),
    (classes.one_class, [BASE, ROW]),
    (equals.are_inputs, [TYPED, ROW, JUDGED]),
    (equals.value_of, [TYPED, ROW, GROUPING, INPUTS]),
    (equals.are_equal, TYPED_TWO),
    (equals.parting_inputs, [TYPED, ROW, PART_ONE, PART_OTHER]),
    (equals.is_parting, [TYPED, ROW, PART_ONE, PART_OTHER, JUDGED]),
    (equals.equal_folds, [TYPED, ROW]),
    (equals.free_typing, [KINDS, TRIPLES, ROW]),
    (equals.free_parting, [TYPED, ROW, PART_ONE, PART_OTHER]),
    (equals.is_free_parting, [TYPED, ROW, PART_ONE, PART_OTHER, JUDGED]),
    (equals.parting_operation, [BASE, ROW, PART_ONE, PART_OTHER]),
    (equals.is_parting_operation, [BASE, ROW, PART_ONE, PART_OTHER, JUDGED]),
    (equals.shift_chain, TYPED_TWO),
    (equals.is_shift_chain, TYPED_TWO + [JUDGED]),
    (equals.verdict, TYPED_TWO),
    (equals.tells_all, [TYPED, ("size", "InvalidCount", lambda: 2, among(1, 2, 7, 10 ** 30))]),
    (prices.are_prices, [BASE, JUDGED]),
    (prices.price_of, FOLD + [PRICES]),
    (prices.least_price, FOLD + [PRICES]),
    (prices.cheapest, FOLD + [PRICES]),
    (prices.is_cheapest, FOLD + [PRICES, JUDGED]),
    (prices.many_cheapest, FOLD + [PRICES]),
    (prices.bounds_of, FOLD + [PRICES]),
    (prices.are_bounds, FOLD + [PRICES, JUDGED]),
    (prices.two_prices, FOLD + [PRICES, ("others", "InvalidPrices", some_prices, none_of_them)]),
    (prices.most_shared, FOLD + [("wished", "InvalidGrouping", halves, none_of_them)]),
    (prices.nearest, FOLD + [("wished", "InvalidGrouping", halves, none_of_them)]),
    (prices.is_nearest, FOLD + [("wished", "InvalidGrouping", halves, none_of_them), JUDGED]),
    (prices.prices_alike, FOLD + [PRICES]),
    (prices.unlike_shift, FOLD + [PRICES]),
    (prices.is_unlike_shift, FOLD + [PRICES, JUDGED]),
    (edits.depths, [ANY_GROUPING]),
    (edits.depth_of, [ANY_GROUPING]),
    (edits.grouping_of_depths, [("depths", "InvalidWeights", lambda: [2, 2, 2, 2], among([0], [1, 1]))]),
    (edits.edit, FOLD + [INPUTS, ("place", "InvalidCount", lambda: 2, among(0, 1, 2)), (
        "value", "InvalidValue", lambda: "m", none_of_them,
    )]),
    (edits.least_depth, FOLD),
    (edits.flattest, FOLD),
    (edits.is_flattest, FOLD + [JUDGED]),
    (edits.depth_bounds, FOLD),
    (edits.are_depth_bounds, FOLD + [JUDGED]),
    (edits.weight_of, [("grouping", "InvalidGrouping", halves, whole_grouping), WEIGHTS]),
    (edits.least_weight, FOLD + [WEIGHTS]),
    (edits.best_kept, FOLD + [WEIGHTS]),
    (edits.is_best_kept, FOLD + [WEIGHTS, JUDGED]),
    (edits.weight_bounds, FOLD + [WEIGHTS]),
    (edits.are_weight_bounds, FOLD + [WEIGHTS, JUDGED]),
    (edits.room_of, [ANY_GROUPING]),
    (edits.two_rooms, FOLD),
    (hands.is_schedule, RUN + [JUDGED]),
    (hands.schedule, RUN),
    (hands.is_least_schedule, RUN + [JUDGED]),
    (hands.bar_steps, RUN + [("depth", "InvalidCount", lambda: 1, among(0, 1))]),
    (hands.greatest_bar, RUN),
    (hands.is_greatest_bar, RUN + [JUDGED]),
    (hands.run, RUN + [LOSSES]),
    (hands.bars_left, RUN + [LOSSES]),
    (hands.costly_steps, RUN + [LOSSES]),
    (hands.worst_steps, RUN + [LOST]),
    (hands.worst_losses, RUN + [LOST]),
    (hands.are_worst_losses, RUN + [LOST, JUDGED]),
]
# What is judged True with the right objects of the others: what the functions beside the judges return.
TRUE_OF = {
    "is_likeness": [LIKENESS], "is_folding": [[["a"], ["n"], ["p"]]], "is_row": [four_row()],
    "is_grouping": [tower(), halves()], "is_chain": [[("right", 0, 2, 3, 4)]], "comes": [(2, 4, ((2, 4),))],
    "are_parting_values": [("q", "qq", "m")], "are_inputs": [["q", "qq", "mm", "q"]],
    "is_parting": [equals.parting_inputs(stop_typing(), four_row(), tower(), PART_OTHER[2]())],
    "is_free_parting": [equals.free_parting(stop_typing(), four_row(), tower(), PART_OTHER[2]())],
    "is_parting_operation": [equals.parting_operation(sign_base(), four_row(), tower(), PART_OTHER[2]())],
    "is_shift_chain": [equals.shift_chain(stop_typing(), four_row(), tower(), halves())],
    "are_prices": [some_prices()],
    "is_cheapest": [prices.cheapest(sign_base(), four_row(), tower(), some_prices())],
    "are_bounds": [prices.bounds_of(sign_base(), four_row(), tower(), some_prices())],
    "is_nearest": [prices.nearest(sign_base(), four_row(), tower(), halves())],
    "is_unlike_shift": [prices.unlike_shift(sign_base(), four_row(), tower(), some_prices())],
    "is_flattest": [edits.flattest(sign_base(), four_row(), tower())],
    "are_depth_bounds": [edits.depth_bounds(sign_base(), four_row(), tower())],
    "is_best_kept": [edits.best_kept(sign_base(), four_row(), tower(), [5, 1, 1, 1])],
    "are_weight_bounds": [edits.weight_bounds(sign_base(), four_row(), tower(), [5, 1, 1, 1])],
    "is_schedule": [hands.schedule(halves(), 2)], "is_least_schedule": [hands.schedule(halves(), 2)],
    "is_greatest_bar": [hands.greatest_bar(halves(), 2)], "are_worst_losses": [hands.worst_losses(halves(), 2, 2)],
}


class ArgumentsTest(unittest.TestCase):
    def check_error(self, call, params, at, wrong, arguments):
        before = snapshot(arguments)
        names = [param[0] for param in params]
        for told in [lambda: call(*arguments), lambda: call(**dict(zip(names, arguments)))]:
            with self.assertRaises(errors.FoldError) as caught:
                told()
            self.assertEqual(type(caught.exception).__name__, params[at][1], (call, at, wrong))
            self.assertIs(caught.exception.value, wrong)
        self.assertEqual(snapshot(arguments), before)

    def test_each_wrong_argument(self):
        for call, params in CALLS:
            for at, (_, word, _, is_right) in enumerate(params):
                for wrong in strange_objects() + strange_folds() if word else []:
                    if is_right(wrong):
                        continue
                    arguments = [param[2]() for param in params]
                    arguments[at] = wrong
                    self.check_error(call, params, at, wrong, arguments)
                    arguments[at + 1:] = [{"none": [1]} for _ in params[at + 1:]]
                    self.check_error(call, params, at, wrong, arguments)

    def test_behind_right_calls_with_the_same_objects(self):
        for call, params in CALLS:
            arguments = [param[2]() for param in params]
            wanted = snapshot(call(*arguments))
            for at, (_, word, right, is_right) in enumerate(params):
                for wrong in strange_objects() + strange_folds() if word else []:
                    if not is_right(wrong):
                        bent = arguments[:at] + [wrong] + arguments[at + 1:]
                        self.check_error(call, params, at, wrong, bent)
            self.assertEqual(snapshot(call(*arguments)), wanted)

    def test_an_object_bent_behind_a_right_call(self):
        holding = signs_holding()
        typings.breaking(stop(), signs(), holding)
        holding["p"].reverse()
        with self.assertRaises(errors.InvalidHolding) as caught:
            typings.breaking(stop(), signs(), holding)
        self.assertIs(caught.exception.value, holding)
        values = ["a", "b"]
        operations.differences(values)
        values.append("a")
        self.assertRaises(errors.InvalidValue, operations.differences, values)

    def test_any_object_is_judged(self):
        for call, params in CALLS:
            if params[-1] is JUDGED:
                for value in strange_objects() + strange_folds():
                    arguments = [param[2]() for param in params[:-1]] + [value]
                    before = snapshot(arguments)
                    self.assertIs(type(call(*arguments)), bool)
                    self.assertIs(call(*[param[2]() for param in params[:-1]], value=value), call(*arguments))
                    self.assertEqual(snapshot(arguments), before)

    def test_none_is_never_judged_true(self):
        for call, params in CALLS:
            if params[-1] is JUDGED:
                self.assertIs(call(*[param[2]() for param in params[:-1]], None), False)

    def test_wrong_arguments_of_judges(self):
        for call, params in CALLS:
            if params[-1] is JUDGED:
                arguments = [param[2]() for param in params]
                for at, wrong in product(range(len(params) - 1), [None, True, 1, "q", [], (), {}]):
                    if params[at][3](wrong):
                        continue
                    bent = arguments[:at] + [wrong] + arguments[at + 1:]
                    self.check_error(call, params, at, wrong, bent)


    def test_what_is_returned_beside_a_judge_is_judged_true(self):
        for call, params in CALLS:
            for value in TRUE_OF.get(call.__name__, []):
                arguments = [param[2]() for param in params[:-1]] + [value]
                before = snapshot(arguments)
                self.assertIs(call(*arguments), True, call)
                self.assertIs(call(*arguments[:-1], value=value), True, call)
                self.assertEqual(snapshot(arguments), before)


class ResultsTest(unittest.TestCase):
    def test_equal_calls_return_equal_new_results(self):
        for call, params in CALLS:
            arguments = [param[2]() for param in params]
            before = snapshot(arguments)
            one, other = call(*arguments), call(**dict(zip([param[0] for param in params], arguments)))
            self.assertEqual(snapshot(one), snapshot(other))
            self.assertEqual(snapshot(arguments), before)
            if isinstance(one, (list, dict, tuple)):
                self.assertTrue(one is not other or isinstance(one, tuple))
                wanted = snapshot(one)
                spoil(one)
                self.assertEqual(snapshot(other), wanted)
                self.assertEqual(snapshot(call(*arguments)), wanted)
                self.assertEqual(snapshot(arguments), before)

    def test_arguments_changed_behind_a_call(self):
        for call, params in CALLS:
            arguments = [param[2]() for param in params]
            made = call(*arguments)
            wanted = snapshot(made)
            for argument in arguments:
                spoil(argument)
            self.assertEqual(snapshot(made), wanted)
            self.assertEqual(snapshot(call(*[param[2]() for param in params])), wanted)

    def test_what_methods_return(self):
        operation, kinds, typed, base = stop(), signs(), stop_typing(), sign_base()
        for call in [
            operation.table, operation.names, kinds.table, kinds.names, typed.holding, typed.operation().table,
            typed.operation().names, typed.kinds().table, typed.kinds().names, base.triples, base.typed().holding,
        ]:
            wanted = snapshot(call())
            self.assertIsNot(call(), call())
            spoil(call())
            self.assertEqual(snapshot(call()), wanted)
        for kind in typed.holding():
            typed.holding()[kind].append("x")
        self.assertEqual(typed.holding(), signs_holding())

    def test_keys_in_any_order(self):
        for call, params in CALLS:
            arguments = [param[2]() for param in params]
            turned = [turned_about(argument) for argument in arguments]
            self.assertEqual(snapshot(call(*arguments)), snapshot(call(*turned)))


def spoil(value):
    """Changes a list or a dictionary, and those inside it."""
    if isinstance(value, dict):
        for part in list(value.values()):
            spoil(part)
        value["spoilt"] = ["spoilt"]
    if isinstance(value, (list, tuple)):
        for part in value:
            spoil(part)
    if isinstance(value, list):
        value.append("spoilt")


class OrderTest(unittest.TestCase):
    """One base, one typing, one list filled again: what is told hangs on what is there at the call."""

    def test_one_base_with_several_rows_in_turns(self):
        base = sign_base()
        rows = [["p", "p", "n", "p"], ["n", "a", "n", "p"], ["a"] * 4, ["p", "n", "p", "n"]]
        wanted = [snapshot(classes.coming(sign_base(), row, tower())) for row in rows]
        for _ in range(3):
            for row, told in zip(rows, wanted):
                self.assertEqual(snapshot(classes.coming(base, row, tower())), told)
                self.assertEqual(shifts.chain_between(base, row, tower(), tower()), [])

    def test_one_base_with_several_prices_and_weights_in_turns(self):
        base, row = sign_base(), four_row()
        told = [{pair: price for pair in signs().table()} for price in [(1, 0, 0), (0, 1, 0), (0, 0, 1), (0, 0, 0)]]
        wanted = [prices.bounds_of(sign_base(), row, tower(), price) for price in told]
        weights = [[5, 1, 1, 1], [0, 0, 0, 9], [1, 1, 1, 1]]
        heavy = [edits.weight_bounds(sign_base(), row, tower(), weight) for weight in weights]
        for _ in range(3):
            for price, bounds in zip(told, wanted):
                self.assertEqual(prices.bounds_of(base, row, tower(), price), bounds)
            for weight, bounds in zip(weights, heavy):
                self.assertEqual(edits.weight_bounds(base, row, tower(), weight), bounds)
        changed = dict(told[0])
        prices.least_price(base, row, tower(), changed)
        changed[("p", "p")] = (7, 0, 0)
        self.assertEqual(prices.price_of(base, row, tower(), changed), 9)
        changed[("p", "p")] = (7, 0, True)
        self.assertRaises(errors.InvalidPrices, prices.price_of, base, row, tower(), changed)

    def test_one_typing_with_several_rows_in_turns(self):
        typed = stop_typing()
        rows = [["p", "p", "n"], ["p", "n", "p"], ["n", "n", "p"]]
        wanted = [equals.equal_folds(stop_typing(), row) for row in rows]
        for _ in range(2):
            self.assertEqual([equals.equal_folds(typed, row) for row in rows], wanted)
        typed.holding()["p"].clear()
        self.assertEqual([equals.equal_folds(typed, row) for row in rows], wanted)

    def test_one_list_refilled(self):
        base, row, grouping = sign_base(), [], []
        for kinds, blocks in [(["p", "p", "n", "p"], tower()), (["p", "n"], [(0, 2)]), (["a"] * 4, halves())]:
            row[:], grouping[:] = kinds, blocks
            self.assertEqual(classes.class_of(base, row, grouping), classes.class_of(sign_base(), kinds, blocks))
            self.assertEqual(classes.class_size(base, row, grouping), classes.class_size(sign_base(), kinds, blocks))
        grouping.append((0, 4))
        self.assertRaises(errors.InvalidGrouping, classes.class_of, base, row, grouping)
        row.append("x")
        self.assertRaises(errors.InvalidRow, classes.class_of, base, row, grouping)


def turned_about(value):
    if isinstance(value, dict):
        return dict(reversed(list(value.items())))
    return value


if __name__ == "__main__":
    unittest.main()
