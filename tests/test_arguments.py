"""Section 1: wrong arguments, arguments that stay as they were, and equal results of equal calls."""

import unittest
from itertools import product

from shiftfolds import errors, operations, typings
from shiftfolds.operations import Operation
from shiftfolds.typings import Kinds, Typing

from tests.helpers import (
    signs, signs_holding, signs_table, snapshot, stop, stop_table, stop_typing, strange_objects,
)

# Each parameter: its name, the word of its error (None: any object is judged), a right object, and what else is right.
OPERATION = ("operation", "InvalidOperation", stop, lambda x: isinstance(x, Operation))
KINDS = ("kinds", "InvalidKinds", signs, lambda x: isinstance(x, Kinds))
TYPED = ("typed", "InvalidTyping", stop_typing, lambda x: isinstance(x, Typing))
HOLDING = ("holding", "InvalidHolding", signs_holding, lambda x: False)
TOLD = ("told", "InvalidHolding", lambda: {"p": ["q"]}, lambda x: x in ({}, {"p": ["q"]}))
JUDGED = ("value", None, lambda: None, lambda x: True)
IS_VALUE = lambda x: isinstance(x, str) and x in stop().names()
IS_VALUES = lambda x: isinstance(x, list) and len(x) > 0 and all(IS_VALUE(part) for part in x)
IS_WORDS = lambda x: x in (["q"], ["q", "m"], ["qq", "q"]) and isinstance(x, list)
WORDS = ("values", "InvalidValue", lambda: ["b", "a", "c"], IS_WORDS)
LIKENESS = [["m", "mm", "o", "q", "qq"]]
IS_TABLE = lambda x: isinstance(x, dict) and x == {("a", "a"): "a"}
IS_WORD = lambda x: isinstance(x, str) and x in ("a", "right", "abcdefgh")
IS_COUNT = lambda x: isinstance(x, int) and not isinstance(x, bool) and x in (0, 1, 2)
SENT = {"m": "a", "mm": "b", "o": "c", "q": "d", "qq": "q"}

CALLS = [
    (Operation, [("table", "InvalidOperation", stop_table, IS_TABLE)]),
    (operations.unlike_values, [OPERATION]),
    (operations.values_from, [OPERATION, ("values", "InvalidValue", lambda: ["m", "qq"], IS_VALUES)]),
    (operations.stopping_sums, [WORDS, ("zero", "InvalidCount", lambda: 2, IS_COUNT)]),
    (operations.differences, [WORDS]),
    (operations.swallowing, [OPERATION, ("value", "InvalidValue", lambda: "z", IS_WORD)]),
    (operations.opposite, [OPERATION]),
    (operations.renamed, [OPERATION, ("sent", "InvalidMap", lambda: dict(SENT), lambda x: False)]),
    (operations.is_likeness, [OPERATION, JUDGED]),
    (operations.likeness_by, [
        OPERATION, ("pairs", "InvalidLikeness", lambda: [("o", "q")], lambda x: x in ([], [("q", "q")])),
    ]),
    (operations.folded, [OPERATION, ("likeness", "InvalidLikeness", lambda: [list(LIKENESS[0])], lambda x: False)]),
    (operations.bracket_likeness, [OPERATION]),
    (Kinds, [("table", "InvalidTable", signs_table, IS_TABLE)]),
    (Typing, [OPERATION, KINDS, HOLDING]),
    (typings.breaking, [OPERATION, KINDS, HOLDING]),
    (typings.is_breaking, [OPERATION, KINDS, HOLDING, JUDGED]),
    (typings.kinds_of_value, [TYPED, ("word", "InvalidValue", lambda: "q", IS_VALUE)]),
    (typings.least_holding, [OPERATION, KINDS, TOLD]),
    (typings.least_typing, [OPERATION, KINDS, TOLD]),
    (typings.kinds_typing, [KINDS]),
    (typings.finest_typing, [OPERATION]),
    (typings.likeness_steps, [OPERATION]),
    (typings.are_likeness_steps, [OPERATION, JUDGED]),
]


class ArgumentsTest(unittest.TestCase):
    def check_error(self, call, params, at, wrong, arguments):
        before = snapshot(arguments)
        names = [param[0] for param in params]
        for told in [lambda: call(*arguments), lambda: call(**dict(zip(names, arguments)))]:
            with self.assertRaises(errors.FoldError) as caught:
                told()
            self.assertEqual(type(caught.exception).__name__, params[at][1], (call, at, wrong))
            self.assertIs(caught.exception.value, wrong)
        self.assertEqual(snapshot(arguments), before)

    def test_each_wrong_argument(self):
        for call, params in CALLS:
            for at, (_, word, _, is_right) in enumerate(params):
                for wrong in strange_objects() if word else []:
                    if is_right(wrong):
                        continue
                    arguments = [param[2]() for param in params]
                    arguments[at] = wrong
                    self.check_error(call, params, at, wrong, arguments)
                    arguments[at + 1:] = [{"none": [1]} for _ in params[at + 1:]]
                    self.check_error(call, params, at, wrong, arguments)

    def test_behind_right_calls_with_the_same_objects(self):
        for call, params in CALLS:
            arguments = [param[2]() for param in params]
            wanted = snapshot(call(*arguments))
            for at, (_, word, right, is_right) in enumerate(params):
                for wrong in strange_objects() if word else []:
                    if not is_right(wrong):
                        bent = arguments[:at] + [wrong] + arguments[at + 1:]
                        self.check_error(call, params, at, wrong, bent)
            self.assertEqual(snapshot(call(*arguments)), wanted)

    def test_an_object_bent_behind_a_right_call(self):
        holding = signs_holding()
        typings.breaking(stop(), signs(), holding)
        holding["p"].reverse()
        with self.assertRaises(errors.InvalidHolding) as caught:
            typings.breaking(stop(), signs(), holding)
        self.assertIs(caught.exception.value, holding)
        values = ["a", "b"]
        operations.differences(values)
        values.append("a")
        self.assertRaises(errors.InvalidValue, operations.differences, values)

    def test_any_object_is_judged(self):
        for call, params in CALLS:
            if params[-1] is JUDGED:
                for value in strange_objects():
                    arguments = [param[2]() for param in params[:-1]] + [value]
                    before = snapshot(arguments)
                    self.assertIn(call(*arguments), (True, False))
                    self.assertIs(type(call(*arguments)), bool)
                    self.assertIs(call(*[param[2]() for param in params[:-1]], value=value), call(*arguments))
                    self.assertEqual(snapshot(arguments), before)

    def test_none_is_never_judged_true(self):
        for call, params in CALLS:
            if params[-1] is JUDGED:
                self.assertIs(call(*[param[2]() for param in params[:-1]], None), False)

    def test_wrong_arguments_of_judges(self):
        for call, params in CALLS:
            if params[-1] is JUDGED:
                arguments = [param[2]() for param in params]
                for at, wrong in product(range(len(params) - 1), [None, True, 1, "q", [], (), {}]):
                    bent = arguments[:at] + [wrong] + arguments[at + 1:]
                    self.check_error(call, params, at, wrong, bent)


class ResultsTest(unittest.TestCase):
    def test_equal_calls_return_equal_new_results(self):
        for call, params in CALLS:
            arguments = [param[2]() for param in params]
            before = snapshot(arguments)
            one, other = call(*arguments), call(**dict(zip([param[0] for param in params], arguments)))
            self.assertEqual(snapshot(one), snapshot(other))
            self.assertEqual(snapshot(arguments), before)
            if isinstance(one, (list, dict)):
                self.assertIsNot(one, other)
                wanted = snapshot(one)
                spoil(one)
                self.assertEqual(snapshot(other), wanted)
                self.assertEqual(snapshot(call(*arguments)), wanted)
                self.assertEqual(snapshot(arguments), before)

    def test_arguments_changed_behind_a_call(self):
        for call, params in CALLS:
            arguments = [param[2]() for param in params]
            made = call(*arguments)
            wanted = snapshot(made)
            for argument in arguments:
                spoil(argument)
            self.assertEqual(snapshot(made), wanted)
            self.assertEqual(snapshot(call(*[param[2]() for param in params])), wanted)

    def test_what_methods_return(self):
        operation, kinds, typed = stop(), signs(), stop_typing()
        for call in [
            operation.table, operation.names, kinds.table, kinds.names, typed.holding, typed.operation().table,
            typed.operation().names, typed.kinds().table, typed.kinds().names,
        ]:
            wanted = snapshot(call())
            self.assertIsNot(call(), call())
            spoil(call())
            self.assertEqual(snapshot(call()), wanted)
        for kind in typed.holding():
            typed.holding()[kind].append("x")
        self.assertEqual(typed.holding(), signs_holding())

    def test_keys_in_any_order(self):
        for call, params in CALLS:
            arguments = [param[2]() for param in params]
            turned = [turned_about(argument) for argument in arguments]
            self.assertEqual(snapshot(call(*arguments)), snapshot(call(*turned)))


def spoil(value):
    """Changes a list or a dictionary, and those inside it."""
    if isinstance(value, dict):
        for part in list(value.values()):
            spoil(part)
        value["spoilt"] = ["spoilt"]
    if isinstance(value, list):
        for part in value:
            spoil(part)
        value.append("spoilt")


def turned_about(value):
    if isinstance(value, dict):
        return dict(reversed(list(value.items())))
    return value


if __name__ == "__main__":
    unittest.main()
