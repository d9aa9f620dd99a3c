"""Section 4: kinds and typings."""

import unittest
from itertools import product
from random import Random

from shiftfolds.errors import InvalidHolding, InvalidKind, InvalidTable, InvalidValue
from shiftfolds.operations import Operation, bracket_likeness, folded, stopping_sums, swallowing, unlike_values
from shiftfolds.typings import (
    Kinds, Typing, are_likeness_steps, breaking, finest_typing, is_breaking, kinds_of_value, kinds_typing,
    least_holding, least_typing, likeness_steps,
)

from tests.helpers import (
    all_partings, alike, brackets, is_congruence, random_table, signs, signs_holding, signs_table, small_operations,
    step_operations, stop, stop_typing, strange_objects,
)


def small_kinds():
    """ALL Kinds of one and of two kinds, and some of three and four."""
    found = [Kinds({("k", "k"): "k"})]
    for made in product("ab", repeat=4):
        table = dict(zip(product("ab", repeat=2), made))
        if unlike_values(Operation(table)) is None:
            found.append(Kinds(table))
    found.append(signs())
    found.append(Kinds({(x, y): max(x, y) for x in "abcd" for y in "abcd"}))
    found.append(Kinds({(x, y): x for x in "abcd" for y in "abcd"}))
    found.append(Kinds({(x, y): "abcd"[("abcd".index(x) + "abcd".index(y)) % 4] for x in "abcd" for y in "abcd"}))
    return found


def some_holdings(operation, kinds, many):
    """Holdings by their form, sound ones and others."""
    chance = Random(many)
    names, found = operation.names(), []
    for _ in range(many):
        holding = {}
        for kind in kinds.names():
            holding[kind] = sorted(chance.sample(names, chance.randint(1, len(names))))
        found.append(holding)
    found.append({kind: names for kind in kinds.names()})
    return found


def all_breaking(operation, kinds, holding):
    return [
        (a, b, x, y) for a in kinds.names() for b in kinds.names() for x in holding[a] for y in holding[b]
        if operation.do(x, y) not in holding[kinds.put(a, b)]
    ]


class ExamplesTest(unittest.TestCase):
    def test_signs(self):
        made, kinds, typed = stop(), signs(), stop_typing()
        self.assertEqual([kinds_of_value(typed, "o"), kinds_of_value(typed, "mm")], [["a", "n", "p"], ["a", "n"]])
        self.assertEqual([kinds.names(), kinds.put("n", "p")], [["a", "n", "p"], "a"])
        self.assertIsNone(breaking(made, kinds, typed.holding()))
        told = {"a": ["o"], "n": ["m"], "p": ["q"]}
        self.assertIs(is_breaking(made, kinds, told, ("p", "p", "q", "q")), True)
        self.assertEqual(least_holding(made, kinds, {"p": ["q"]}), {"a": [], "n": [], "p": ["q", "qq"]})
        self.assertIsNone(least_typing(made, kinds, {"p": ["q"]}))
        self.assertEqual(
            least_typing(made, kinds, {"p": ["q"], "n": ["m"]}).holding(),
            {"a": ["m", "mm", "o", "q", "qq"], "n": ["m", "mm"], "p": ["q", "qq"]},
        )

    def test_finest(self):
        odd = Operation({("a", "a"): "b", ("a", "b"): "a", ("b", "a"): "a", ("b", "b"): "a"})
        self.assertEqual(finest_typing(stop()).holding(), {"m": ["m", "mm", "o", "q", "qq"]})
        self.assertIs(are_likeness_steps(odd, [("b", "a", ("three", "a", "a", "b"))]), True)
        self.assertIs(are_likeness_steps(odd, []), False)
        few = Operation({(x, y): "q" if x == y == "p" else "o" for x in "opq" for y in "opq"})
        self.assertEqual(finest_typing(few).holding(), {"o": ["o"], "p": ["p"], "q": ["q"]})
        self.assertIs(are_likeness_steps(few, []), True)
        self.assertEqual(kinds_typing(signs()).holding(), {"a": ["a"], "n": ["n"], "p": ["p"]})
        self.assertEqual(finest_typing(few).kinds().put("p", "p"), "q")


class KindsTest(unittest.TestCase):
    def test_all_tables_of_two_kinds(self):
        for made in product("ab", repeat=4):
            table = dict(zip(product("ab", repeat=2), made))
            sound = all(
                table[(table[(a, b)], c)] == table[(a, table[(b, c)])] for a, b, c in product("ab", repeat=3)
            )
            if sound:
                self.assertEqual(Kinds(table).table(), table)
            else:
                with self.assertRaises(InvalidTable) as caught:
                    Kinds(table)
                self.assertIs(caught.exception.value, table)

    def test_one_triple_is_enough(self):
        right = {(x, y): min(x, y) for x in "abcd" for y in "abcd"}
        Kinds(right)
        for pair, made in product(right, "abcd"):
            bent = dict(right)
            bent[pair] = made
            unlike = unlike_values(Operation(bent))
            if unlike is None:
                self.assertEqual(Kinds(bent).put(*pair), made)
            else:
                self.assertRaises(InvalidTable, Kinds, bent)

    def test_tables_that_are_none(self):
        for wrong in [
            {}, {("a", "a"): "b"}, {("a", "b"): "a"}, {("a", "a"): ["a"]}, {("a", "a"): True}, {"aa": "a"}, {1: "a"},
            {("a", "a", "a"): "a"}, {("A", "A"): "A"}, {("a", 1): "a"}, [("a", "a")], (), None, signs(), stop(),
            {("abcdefghi", "abcdefghi"): "abcdefghi"}, {("a", "a"): "a", ("b", "b"): "b"},
        ]:
            with self.assertRaises(InvalidTable) as caught:
                Kinds(wrong)
            self.assertIs(caught.exception.value, wrong)

    def test_table_names_put(self):
        table = dict(reversed(list(signs_table().items())))
        kinds = Kinds(table)
        self.assertEqual(list(kinds.table()), sorted(table))
        self.assertEqual(kinds.table(), table)
        self.assertEqual(kinds.names(), ["a", "n", "p"])
        for pair in table:
            self.assertEqual(kinds.put(*pair), table[pair])

    def test_put_asks_for_kinds_one_by_one(self):
        for wrong in strange_objects():
            if isinstance(wrong, str) and wrong == "a":
                continue
            for first, second in [(wrong, "n"), ("n", wrong), (wrong, ["none", 1])]:
                with self.assertRaises(InvalidKind) as caught:
                    signs().put(first, second)
                self.assertIs(caught.exception.value, wrong)

    def test_equality(self):
        for one, other in product(small_kinds(), repeat=2):
            self.assertIs(one == other, one.table() == other.table())
            self.assertIs(one != other, one.table() != other.table())
        for other in strange_objects() + [Operation(signs_table()), signs_table()]:
            if not isinstance(other, Kinds):
                self.assertFalse(signs() == other)
                self.assertFalse(other == signs())

    def test_nothing_passed_or_returned_is_held(self):
        table = signs_table()
        kinds = Kinds(table)
        table[("n", "p")] = "p"
        kinds.table().clear()
        kinds.names().clear()
        self.assertTrue(kinds == signs())
        self.assertEqual((kinds.table(), kinds.names(), kinds.put("n", "p")), (signs_table(), ["a", "n", "p"], "a"))


class TypingTest(unittest.TestCase):
    def test_parts(self):
        typed = Typing(stop(), signs(), signs_holding())
        self.assertTrue(typed.operation() == stop())
        self.assertTrue(typed.kinds() == signs())
        self.assertEqual(list(typed.holding().items()), sorted(signs_holding().items()))

    def test_sound_holdings_alone(self):
        for operation in small_operations()[::7]:
            for kinds in small_kinds():
                for holding in some_holdings(operation, kinds, 12):
                    if not all_breaking(operation, kinds, holding):
                        self.assertEqual(Typing(operation, kinds, holding).holding(), holding)
                        continue
                    with self.assertRaises(InvalidHolding) as caught:
                        Typing(operation, kinds, holding)
                    self.assertIs(caught.exception.value, holding)

    def test_a_value_may_be_of_several_kinds_or_of_none(self):
        typed = Typing(stop(), Kinds({(x, y): "k" for x in "jk" for y in "jk"}), {"k": ["o"], "j": ["o"]})
        self.assertEqual([kinds_of_value(typed, "o"), kinds_of_value(typed, "qq")], [["j", "k"], []])

    def test_holdings_by_their_form(self):
        for wrong in wrong_holdings() + [{"a": ["o"], "n": ["m"], "p": ["q"]}]:
            with self.assertRaises(InvalidHolding) as caught:
                Typing(stop(), signs(), wrong)
            self.assertIs(caught.exception.value, wrong)

    def test_equality(self):
        typed, table = stop_typing(), signs_table()
        turned = Typing(stop(), signs(), dict(reversed(list(signs_holding().items()))))
        self.assertTrue(typed == turned)
        self.assertFalse(typed != turned)
        table[("p", "n")] = "a"
        many = {"a": ["m", "mm", "o", "q", "qq"], "n": ["m", "mm"], "p": ["q", "qq"]}
        all_values = {kind: stop().names() for kind in signs().names()}
        others = [
            Typing(stop(), signs(), many), Typing(stop(), signs(), all_values),
            Typing(stop(), Kinds({(x, y): "a" for x in "anp" for y in "anp"}), all_values),
            Typing(stopping_sums(["mm", "m", "o", "q", "qq"], 1), signs(), all_values), kinds_typing(signs()),
        ]
        for one, other in product([typed] + others, repeat=2):
            self.assertIs(one == other, one is other)
        for other in strange_objects() + [stop(), signs(), signs_holding()]:
            if not isinstance(other, Typing):
                self.assertFalse(typed == other)
                self.assertFalse(other == typed)

    def test_nothing_passed_or_returned_is_held(self):
        holding = signs_holding()
        typed = Typing(stop(), signs(), holding)
        holding["p"].append("x")
        del holding["n"]
        typed.holding()["a"].clear()
        typed.holding().clear()
        typed.operation().table().clear()
        typed.kinds().table().clear()
        self.assertEqual(typed.holding(), signs_holding())
        self.assertTrue(typed == stop_typing())


def wrong_holdings():
    """Objects that are no holdings of the signs by their form."""
    right = signs_holding()
    found = [None, True, [], (), "a", {}, list(right.items()), signs(), stop()]
    found.append({"a": ["o"], "n": ["o"]})
    found.append(dict(right, x=["o"]))
    for held in [
        [], ["qq", "q"], ["q", "q"], ["q", "x"], ("q",), "q", None, [1], [["q"]], ["q", None], {"q": 1}, [True], "",
    ]:
        found.append(dict(right, p=held))
        found.append({"p": held, "n": ["m"], "a": ["o"]})
    for key in [1, None, True, ("p",), "P"]:
        found.append({"a": right["a"], "n": right["n"], key: ["o"]})
    return found


class BreakingTest(unittest.TestCase):
    def test_by_all_values_of_all_kinds(self):
        for operation in small_operations()[::5]:
            for kinds in small_kinds():
                for holding in some_holdings(operation, kinds, 6):
                    right = all_breaking(operation, kinds, holding)
                    found = breaking(operation, kinds, holding)
                    self.assertEqual(found, breaking(operation, kinds, dict(reversed(list(holding.items())))))
                    if right:
                        self.assertIn(found, right)
                    else:
                        self.assertIsNone(found)
                    names = kinds.names() + ["x"]
                    for a, b, x, y in product(names, names, operation.names(), operation.names()):
                        told = is_breaking(operation, kinds, holding, (a, b, x, y))
                        self.assertIs(told, (a, b, x, y) in right)

    def test_any_object(self):
        told = {"a": ["o"], "n": ["m"], "p": ["q"]}
        for wrong in strange_objects() + [
            ["p", "p", "q", "q"], ("p", "p", "q"), ("p", "p", "q", "q", "q"), ("p", "p", "qq", "q"), ("x", "p", "q", "q"),
            (["p"], "p", "q", "q"), ("p", "p", ["q"], "q"), ("p", "p", "q", None), ("p", {}, "q", "q"), None,
        ]:
            self.assertIs(is_breaking(stop(), signs(), told, wrong), False)
            self.assertIs(is_breaking(stop(), signs(), signs_holding(), wrong), False)

    def test_holdings_by_their_form(self):
        for wrong in wrong_holdings():
            for call in [
                lambda: breaking(stop(), signs(), wrong), lambda: is_breaking(stop(), signs(), wrong, None),
            ]:
                with self.assertRaises(InvalidHolding) as caught:
                    call()
                self.assertIs(caught.exception.value, wrong)


class KindsOfValueTest(unittest.TestCase):
    def test_each_value(self):
        typed = stop_typing()
        for word in stop().names():
            want = [kind for kind in signs().names() if word in signs_holding()[kind]]
            self.assertEqual(kinds_of_value(typed, word), want)

    def test_asks_for_a_value_of_the_operation(self):
        for wrong in strange_objects():
            if not isinstance(wrong, str) or wrong not in stop().names():
                with self.assertRaises(InvalidValue) as caught:
                    kinds_of_value(stop_typing(), wrong)
                self.assertIs(caught.exception.value, wrong)


class LeastHoldingTest(unittest.TestCase):
    def test_is_the_least_closed_one(self):
        for operation in small_operations()[::5]:
            for kinds in small_kinds():
                for told in some_holdings(operation, kinds, 4) + [{}] + some_told(operation, kinds):
                    self.check_least(operation, kinds, told)

    def check_least(self, operation, kinds, told):
        held = {(kind, value) for kind in told for value in told[kind]}
        while True:
            made = {(kinds.put(a, b), operation.do(x, y)) for a, x in held for b, y in held}
            if made <= held:
                break
            held = held | made
        want = {kind: sorted(value for own, value in held if own == kind) for kind in kinds.names()}
        found = least_holding(operation, kinds, told)
        self.assertEqual(list(found.items()), list(want.items()))
        typed = least_typing(operation, kinds, told)
        if all(want.values()):
            self.assertTrue(typed == Typing(operation, kinds, want))
        else:
            self.assertIsNone(typed)

    def test_nothing_told(self):
        empty = {"a": [], "n": [], "p": []}
        for told in [{}, {"p": []}, {"n": [], "a": [], "p": []}]:
            self.assertEqual(least_holding(stop(), signs(), told), empty)
            self.assertIsNone(least_typing(stop(), signs(), told))

    def test_what_is_told_by_its_form(self):
        for wrong in strange_objects() + [
            {"x": ["q"]}, {"p": ["q", "q"]}, {"p": ["qq", "q"]}, {"p": ("q",)}, {"p": ["x"]}, {"p": "q"}, {"p": None},
            {"p": [["q"]]}, {1: []}, {None: ["q"]}, {("p",): ["q"]}, [("p", ["q"])], {"p": ["q"], "n": [1]}, {"p": [True]},
        ]:
            if wrong == {} or wrong == {"p": ["q"]}:
                continue
            for call in [least_holding, least_typing]:
                with self.assertRaises(InvalidHolding) as caught:
                    call(stop(), signs(), wrong)
                self.assertIs(caught.exception.value, wrong)

    def test_nothing_passed_or_returned_is_held(self):
        told = {"p": ["q"]}
        found = least_holding(stop(), signs(), told)
        found["p"].clear()
        found["a"].append("q")
        self.assertEqual(told, {"p": ["q"]})
        self.assertEqual(least_holding(stop(), signs(), told), {"a": [], "n": [], "p": ["q", "qq"]})


def some_told(operation, kinds):
    """Told values of some kinds alone."""
    names, found = kinds.names(), []
    for at, value in enumerate(operation.names()):
        found.append({names[at % len(names)]: [value]})
        found.append({names[-1]: operation.names()[at:], names[0]: []})
    return found


class FinestTypingTest(unittest.TestCase):
    def test_against_all_partings(self):
        for operation in small_operations():
            finest = finest_typing(operation)
            lists = list(finest.holding().values())
            self.assertEqual(lists, bracket_likeness(operation))
            self.assertEqual(list(finest.holding()), [part[0] for part in lists])
            self.assertEqual(finest.kinds().table(), folded(operation, lists).table())
            self.assertTrue(finest.operation() == operation)
            for parting in all_partings(operation.names()):
                if is_congruence(operation.table(), parting) and unlike_values(folded(operation, parting)) is None:
                    for part in lists:
                        self.assertTrue(all(alike(parting, part[0], value) for value in part))

    def test_no_other_typing_with_lone_kinds_has_more_right_triples(self):
        for operation in small_operations()[::3]:
            lists = list(finest_typing(operation).holding().values())
            for parting in all_partings(operation.names()):
                if is_congruence(operation.table(), parting) and unlike_values(folded(operation, parting)) is None:
                    for triple in product(parting, repeat=3):
                        if self.is_right_triple(operation, triple):
                            for finer in product(*[[own for own in lists if own[0] in part] for part in triple]):
                                self.assertTrue(self.is_right_triple(operation, finer))

    def is_right_triple(self, operation, triple):
        return all(len(set(brackets(operation, x, y, z))) == 1 for x, y, z in product(*triple))

    def test_kinds_typing(self):
        for kinds in small_kinds():
            typed = kinds_typing(kinds)
            self.assertEqual(typed.operation().table(), kinds.table())
            self.assertTrue(typed.kinds() == kinds)
            self.assertEqual(list(typed.holding().items()), [(name, [name]) for name in kinds.names()])


def steps_by_their_words(operation, steps):
    """Whether well-formed steps are steps whose tuples join just the values of each list of the bracket likeness."""
    ties = []
    for one, other, (word, first, second, third) in steps:
        if word == "three":
            made = brackets(operation, first, second, third)
        elif not is_way(ties, second, third):
            return False
        elif word == "ahead":
            made = operation.do(first, second), operation.do(first, third)
        else:
            made = operation.do(second, first), operation.do(third, first)
        if one == other or sorted(made) != sorted([one, other]):
            return False
        ties.append((one, other))
    likeness = bracket_likeness(operation)
    return all(
        is_way(ties, x, y) == alike(likeness, x, y) for x in operation.names() for y in operation.names()
    )


def is_way(ties, one, other):
    reached = {one}
    for _ in ties:
        for x, y in ties:
            if x in reached or y in reached:
                reached |= {x, y}
    return other in reached


class StepsTest(unittest.TestCase):
    def test_steps_told_are_judged_so(self):
        for operation in step_operations():
            steps = likeness_steps(operation)
            self.assertIs(are_likeness_steps(operation, steps), True)
            self.assertTrue(steps_by_their_words(operation, steps))

    def test_steps_with_reasons_of_each_word_come(self):
        words = {step[2][0] for operation in step_operations() for step in likeness_steps(operation)}
        self.assertEqual(words, {"three", "ahead", "behind"})

    def test_each_step_left_out(self):
        for operation in step_operations():
            steps = likeness_steps(operation)
            for at in range(len(steps)):
                bent = steps[:at] + steps[at + 1:]
                self.assertIs(are_likeness_steps(operation, bent), steps_by_their_words(operation, bent))
                self.assertIs(are_likeness_steps(operation, bent), False)

    def test_each_step_turned_about_or_told_twice(self):
        for operation in step_operations():
            steps = likeness_steps(operation)
            for at, (one, other, reason) in enumerate(steps):
                turned = steps[:at] + [(other, one, reason)] + steps[at + 1:]
                self.assertIs(are_likeness_steps(operation, turned), True)
                self.assertIs(are_likeness_steps(operation, steps + [steps[at]]), True)

    def test_steps_exchanged(self):
        bad = 0
        for operation in step_operations():
            steps = likeness_steps(operation)
            for at, behind in product(range(len(steps)), repeat=2):
                bent = list(steps)
                bent[at], bent[behind] = bent[behind], bent[at]
                told = are_likeness_steps(operation, bent)
                self.assertIs(told, steps_by_their_words(operation, bent))
                bad += not told
        self.assertTrue(bad)

    def test_a_reason_that_comes_too_early(self):
        found = 0
        for operation in step_operations():
            steps = likeness_steps(operation)
            for at, step in enumerate(steps):
                if step[2][0] != "three":
                    found += 1
                    self.assertIs(are_likeness_steps(operation, [step] + steps[:at] + steps[at + 1:]), False)
        self.assertTrue(found)

    def test_each_piece_exchanged(self):
        told_right = 0
        for operation in step_operations()[::4] + step_operations()[-2:]:
            steps = likeness_steps(operation)
            names = operation.names()
            for at, (one, other, (word, *three)) in enumerate(steps):
                for fresh, place in product(names, range(5)):
                    pieces = [one, other] + three
                    pieces[place] = fresh
                    for named in ["three", "ahead", "behind"]:
                        bent = list(steps)
                        bent[at] = (pieces[0], pieces[1], (named, *pieces[2:]))
                        told = are_likeness_steps(operation, bent)
                        self.assertIs(told, steps_by_their_words(operation, bent))
                        told_right += told
        self.assertTrue(told_right)

    def test_a_step_of_two_like_values(self):
        few = Operation({(x, y): "q" if x == y == "p" else "o" for x in "opq" for y in "opq"})
        self.assertIs(are_likeness_steps(few, [("o", "o", ("three", "o", "o", "o"))]), False)
        self.assertIs(are_likeness_steps(few, [("o", "o", ("ahead", "o", "p", "p"))]), False)

    def test_steps_by_a_row_of_elder_ones(self):
        operation = swallowing(stop(), "x")
        steps = likeness_steps(operation)
        for name, one, other in product(operation.names(), repeat=3):
            made = operation.do(name, one), operation.do(name, other)
            if one != other and "x" not in (one, other) and made[0] != made[1]:
                self.assertIs(are_likeness_steps(operation, steps + [(*made, ("ahead", name, one, other))]), True)
                self.assertIs(are_likeness_steps(operation, steps + [(*made, ("ahead", name, other, one))]), True)
            elif made[0] != made[1]:
                self.assertIs(are_likeness_steps(operation, steps + [(*made, ("ahead", name, one, other))]), False)

    def test_any_object(self):
        odd = Operation({("a", "a"): "b", ("a", "b"): "a", ("b", "a"): "a", ("b", "b"): "a"})
        right = ("b", "a", ("three", "a", "a", "b"))
        self.assertIs(are_likeness_steps(odd, [right]), True)
        for wrong in strange_objects() + [
            (right,), [list(right)], [("b", "a", ["three", "a", "a", "b"])], [("b", "a")], [right + ("a",)], {right: 1},
            [("b", "a", ("three", "a", "a"))], [("b", "a", ("three", "a", "a", "b", "b"))], [right, None], [None, right],
            [("b", "a", ("four", "a", "a", "b"))], [("b", "a", (None, "a", "a", "b"))], [("b", "a", (odd, "a", "a", "b"))],
            [("b", "x", ("three", "a", "a", "b"))], [("b", ["a"], ("three", "a", "a", "b"))],
            [("b", "a", ("three", "a", ["a"], "b"))], [("b", "a", ("three", "a", "x", "b"))], [("b", 1, right[2])],
            [("b", "a", None)], [("b", "a", 4)], [("b", "a", odd)], [("b", "a", "abab")], [("b", "a", ())], [4], [odd],
            [("b", "a", (["three"], "a", "a", "b"))], [right, ("b", "a", ("left", "a", "a", "b"))],
        ]:
            self.assertIs(are_likeness_steps(odd, wrong), False)


class SizeTest(unittest.TestCase):
    def test_great_inputs_are_answered(self):
        for size, many in [(9, 4), (14, 6), (30, 8)]:
            names = ["abcdefghijklmnopqrstuvwxyz"[at % 26] * (1 + at // 26) for at in range(size)]
            operation = Operation(random_table(names, names, size))
            letters = "abcdefgh"[:many]
            kinds = Kinds({(x, y): max(x, y) for x in letters for y in letters})
            holding = {kind: sorted(names) for kind in letters}
            self.assertIsNone(breaking(operation, kinds, holding))
            typed = Typing(operation, kinds, holding)
            self.assertEqual(kinds_of_value(typed, names[0]), list(letters))
            self.assertEqual(list(least_holding(operation, kinds, {"a": names[:1]})), list(letters))
            self.assertTrue(least_typing(operation, kinds, holding) == typed)
            self.assertTrue(are_likeness_steps(operation, likeness_steps(operation)))
            self.assertTrue(finest_typing(operation).operation() == operation)


if __name__ == "__main__":
    unittest.main()
