"""Section 1: wrong arguments, arguments that stay as they were, and equal results of equal calls."""

import unittest
from itertools import product

from shiftfolds import classes, edits, equals, errors, operations, prices, programs, scripts, shifts, typings

from tests.calls import (
    CALLS, JUDGED, METHODS, TRUE_OF, WORKS, SCRIPT, filled_works, four_row, halves, sign_base, some_plan, some_script, tower, two_program,
)
from tests.helpers import (
    signs, signs_holding, snapshot, stop, stop_typing, strange_folds, strange_objects, strange_programs,
)
from tests.test_works import all_told, make


def strange():
    return strange_objects() + strange_folds() + strange_programs()


class ArgumentsTest(unittest.TestCase):
    def check_error(self, call, params, at, wrong, arguments):
        before = snapshot(wrong)
        names = [param[0] for param in params]
        for told in [lambda: call(*arguments), lambda: call(**dict(zip(names, arguments)))]:
            with self.assertRaises(errors.FoldError, msg=(call, at, wrong)) as caught:
                told()
            self.assertEqual(type(caught.exception).__name__, params[at][1], (call, at, wrong))
            self.assertIs(caught.exception.value, wrong)
        self.assertEqual(snapshot(wrong), before)

    def check_each(self, call, params):
        """Each wrong object for each parameter, with right arguments behind it, and with wrong ones."""
        right = [param[2]() for param in params]
        before = snapshot(right)
        for at, (_, word, _, is_right) in enumerate(params):
            for wrong in strange() if word else []:
                if not is_right(wrong):
                    self.check_error(call, params, at, wrong, right[:at] + [wrong] + right[at + 1:])
                    self.check_error(call, params, at, wrong, right[:at] + [wrong] + [{"none": [1]} for _ in params[at + 1:]])
        self.assertEqual(snapshot(right), before)

    def test_each_wrong_argument(self):
        for call, params in CALLS:
            self.check_each(call, params)

    def test_behind_right_calls_with_the_same_objects(self):
        for call, params in CALLS:
            arguments = [param[2]() for param in params]
            wanted = snapshot(call(*arguments))
            for at, (_, word, right, is_right) in enumerate(params):
                for wrong in strange_folds() + strange_programs() if word else []:
                    if not is_right(wrong):
                        self.check_error(call, params, at, wrong, arguments[:at] + [wrong] + arguments[at + 1:])
            self.assertEqual(snapshot(call(*arguments)), wanted)

    def test_methods_of_a_works(self):
        for name, params in METHODS:
            works = filled_works()
            before = all_told(works)
            self.check_each(getattr(works, name), params)
            self.assertEqual(all_told(works), before)
            make(works.copy(), (name, *[param[2]() for param in params]))
            self.check_each(getattr(works, name), params)
            self.assertEqual(all_told(works), before)
        for name in ["spots", "log", "undo", "redo", "trial", "copy"]:
            self.assertRaises(TypeError, getattr(filled_works(), name), 1)

    def test_play(self):
        works = filled_works()
        before = all_told(works)
        self.check_each(scripts.play, [(*WORKS[:2], lambda: works, WORKS[3]), SCRIPT])
        self.assertEqual(all_told(works), before)
        self.assertEqual(scripts.play(works.copy(), some_script()), scripts.play(works.copy(), some_script()))

    def test_an_object_bent_behind_a_right_call(self):
        holding = signs_holding()
        typings.breaking(stop(), signs(), holding)
        holding["p"].reverse()
        with self.assertRaises(errors.InvalidHolding) as caught:
            typings.breaking(stop(), signs(), holding)
        self.assertIs(caught.exception.value, holding)
        values = ["a", "b"]
        operations.differences(values)
        values.append("a")
        self.assertRaises(errors.InvalidValue, operations.differences, values)

    def test_any_object_is_judged(self):
        for call, params in CALLS:
            if params[-1] is JUDGED:
                right, other = [[param[2]() for param in params[:-1]] for _ in range(2)]
                before = snapshot(right)
                for value in strange():
                    told = snapshot(value)
                    self.assertIs(type(call(*right, value)), bool)
                    self.assertIs(call(*other, value=value), call(*right, value))
                    self.assertEqual(snapshot(value), told)
                self.assertEqual([snapshot(right), snapshot(other)], [before, before])

    def test_none_is_never_judged_true(self):
        for call, params in CALLS:
            if params[-1] is JUDGED:
                self.assertIs(call(*[param[2]() for param in params[:-1]], None), False)

    def test_wrong_arguments_of_judges(self):
        for call, params in CALLS:
            if params[-1] is JUDGED:
                arguments = [param[2]() for param in params]
                for at, wrong in product(range(len(params) - 1), [None, True, 1, "q", [], (), {}]):
                    if params[at][3](wrong):
                        continue
                    bent = arguments[:at] + [wrong] + arguments[at + 1:]
                    self.check_error(call, params, at, wrong, bent)


    def test_what_is_returned_beside_a_judge_is_judged_true(self):
        for call, params in CALLS:
            for value in TRUE_OF.get(call.__name__, []):
                arguments = [param[2]() for param in params[:-1]] + [value]
                before = snapshot(arguments)
                self.assertIs(call(*arguments), True, call)
                self.assertIs(call(*arguments[:-1], value=value), True, call)
                self.assertEqual(snapshot(arguments), before)


class ResultsTest(unittest.TestCase):
    def test_equal_calls_return_equal_new_results(self):
        for call, params in CALLS:
            arguments = [param[2]() for param in params]
            before = snapshot(arguments)
            one, other = call(*arguments), call(**dict(zip([param[0] for param in params], arguments)))
            self.assertEqual(snapshot(one), snapshot(other))
            self.assertEqual(snapshot(arguments), before)
            if isinstance(one, (list, dict, tuple)):
                self.assertTrue(one is not other or isinstance(one, tuple))
                wanted = snapshot(one)
                spoil(one)
                self.assertEqual(snapshot(other), wanted)
                self.assertEqual(snapshot(call(*arguments)), wanted)
                self.assertEqual(snapshot(arguments), before)

    def test_arguments_changed_behind_a_call(self):
        for call, params in CALLS:
            arguments = [param[2]() for param in params]
            made = call(*arguments)
            wanted = snapshot(made)
            for argument in arguments:
                spoil(argument)
            self.assertEqual(snapshot(made), wanted)
            self.assertEqual(snapshot(call(*[param[2]() for param in params])), wanted)

    def test_what_methods_return(self):
        operation, kinds, typed, base = stop(), signs(), stop_typing(), sign_base()
        for call in [
            operation.table, operation.names, kinds.table, kinds.names, typed.holding, typed.operation().table,
            typed.operation().names, typed.kinds().table, typed.kinds().names, base.triples, base.typed().holding,
        ]:
            wanted = snapshot(call())
            self.assertIsNot(call(), call())
            spoil(call())
            self.assertEqual(snapshot(call()), wanted)
        for kind in typed.holding():
            typed.holding()[kind].append("x")
        self.assertEqual(typed.holding(), signs_holding())

    def test_keys_in_any_order(self):
        for call, params in CALLS:
            arguments = [param[2]() for param in params]
            turned = [turned_about(argument) for argument in arguments]
            self.assertEqual(snapshot(call(*arguments)), snapshot(call(*turned)))


def spoil(value):
    """Changes a list or a dictionary, and those inside it."""
    if isinstance(value, dict):
        for part in list(value.values()):
            spoil(part)
        value["spoilt"] = ["spoilt"]
    if isinstance(value, (list, tuple)):
        for part in value:
            spoil(part)
    if isinstance(value, list):
        value.append("spoilt")


class OrderTest(unittest.TestCase):
    """One base, one typing, one list filled again: what is told hangs on what is there at the call."""

    def test_one_base_with_several_rows_in_turns(self):
        base = sign_base()
        rows = [["p", "p", "n", "p"], ["n", "a", "n", "p"], ["a"] * 4, ["p", "n", "p", "n"]]
        wanted = [snapshot(classes.coming(sign_base(), row, tower())) for row in rows]
        for _ in range(3):
            for row, told in zip(rows, wanted):
                self.assertEqual(snapshot(classes.coming(base, row, tower())), told)
                self.assertEqual(shifts.chain_between(base, row, tower(), tower()), [])

    def test_one_base_with_several_prices_and_weights_in_turns(self):
        base, row = sign_base(), four_row()
        told = [{pair: price for pair in signs().table()} for price in [(1, 0, 0), (0, 1, 0), (0, 0, 1), (0, 0, 0)]]
        wanted = [prices.bounds_of(sign_base(), row, tower(), price) for price in told]
        weights = [[5, 1, 1, 1], [0, 0, 0, 9], [1, 1, 1, 1]]
        heavy = [edits.weight_bounds(sign_base(), row, tower(), weight) for weight in weights]
        for _ in range(3):
            for price, bounds in zip(told, wanted):
                self.assertEqual(prices.bounds_of(base, row, tower(), price), bounds)
            for weight, bounds in zip(weights, heavy):
                self.assertEqual(edits.weight_bounds(base, row, tower(), weight), bounds)
        changed = dict(told[0])
        prices.least_price(base, row, tower(), changed)
        changed[("p", "p")] = (7, 0, 0)
        self.assertEqual(prices.price_of(base, row, tower(), changed), 9)
        changed[("p", "p")] = (7, 0, True)
        self.assertRaises(errors.InvalidPrices, prices.price_of, base, row, tower(), changed)

    def test_one_typing_with_several_rows_in_turns(self):
        typed = stop_typing()
        rows = [["p", "p", "n"], ["p", "n", "p"], ["n", "n", "p"]]
        wanted = [equals.equal_folds(stop_typing(), row) for row in rows]
        for _ in range(2):
            self.assertEqual([equals.equal_folds(typed, row) for row in rows], wanted)
        typed.holding()["p"].clear()
        self.assertEqual([equals.equal_folds(typed, row) for row in rows], wanted)

    def test_one_list_refilled(self):
        base, row, grouping = sign_base(), [], []
        for kinds, blocks in [(["p", "p", "n", "p"], tower()), (["p", "n"], [(0, 2)]), (["a"] * 4, halves())]:
            row[:], grouping[:] = kinds, blocks
            self.assertEqual(classes.class_of(base, row, grouping), classes.class_of(sign_base(), kinds, blocks))
            self.assertEqual(classes.class_size(base, row, grouping), classes.class_size(sign_base(), kinds, blocks))
        grouping.append((0, 4))
        self.assertRaises(errors.InvalidGrouping, classes.class_of, base, row, grouping)
        row.append("x")
        self.assertRaises(errors.InvalidRow, classes.class_of, base, row, grouping)


def turned_about(value):
    if isinstance(value, dict):
        return dict(reversed(list(value.items())))
    return value


if __name__ == "__main__":
    unittest.main()
