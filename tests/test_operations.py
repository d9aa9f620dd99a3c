"""Section 3: operations and likenesses."""

import unittest
from itertools import product
from random import Random

from shiftfolds.errors import InvalidCount, InvalidLikeness, InvalidMap, InvalidOperation, InvalidValue
from shiftfolds.operations import (
    Operation, bracket_likeness, differences, folded, is_likeness, likeness_by, opposite, renamed, stopping_sums,
    swallowing, unlike_values, values_from,
)
from shiftfolds.typings import Kinds

from tests.helpers import (
    all_likenesses, all_partings, alike, alike_pairs, brackets, part_of, random_table, small_operations, stop,
    stop_table, strange_objects,
)


class ExamplesTest(unittest.TestCase):
    def test_stopping_sums(self):
        made = stopping_sums(["mm", "m", "o", "q", "qq"], 2)
        self.assertEqual(made.names(), ["m", "mm", "o", "q", "qq"])
        self.assertEqual([made.do("q", "qq"), made.do("mm", "q")], ["qq", "m"])
        self.assertEqual(unlike_values(made), ("m", "mm", "q"))
        self.assertEqual(values_from(made, ["q"]), ["q", "qq"])
        self.assertEqual(values_from(made, ["m", "qq"]), ["m", "mm", "o", "q", "qq"])

    def test_turn_and_cut(self):
        turn = differences(["z", "u", "t"])
        self.assertEqual([turn.do("u", "t"), turn.do("t", "u"), opposite(turn).do("u", "t")], ["u", "t", "t"])
        cut = swallowing(turn, "o")
        self.assertEqual(cut.do("o", "z"), "o")
        self.assertEqual(bracket_likeness(cut), [["o"], ["t", "u", "z"]])
        self.assertEqual(
            folded(cut, [["o"], ["t", "u", "z"]]).table(),
            {("o", "o"): "o", ("o", "t"): "o", ("t", "o"): "o", ("t", "t"): "t"},
        )
        self.assertIs(is_likeness(cut, [["o", "z"], ["t"], ["u"]]), False)

    def test_likenesses(self):
        made, turn = stop(), differences(["z", "u", "t"])
        self.assertEqual(likeness_by(made, []), [["m"], ["mm"], ["o"], ["q"], ["qq"]])
        self.assertEqual(likeness_by(made, [("o", "q")]), [["m", "mm", "o", "q", "qq"]])
        self.assertEqual(bracket_likeness(made), [["m", "mm", "o", "q", "qq"]])
        self.assertEqual(renamed(turn, {"z": "u", "u": "z", "t": "t"}).do("z", "t"), "z")


class OperationTest(unittest.TestCase):
    def test_one_value(self):
        one = Operation({("k", "k"): "k"})
        self.assertEqual((one.names(), one.do("k", "k"), one.table()), (["k"], "k", {("k", "k"): "k"}))

    def test_words(self):
        for word in ["a", "z", "abcdefgh", "zzzzzzzz"]:
            self.assertEqual(Operation({(word, word): word}).names(), [word])
        for word in ["", "abcdefghi", "A", "a b", "a1", "a\n", "\t", " a", "a-b"]:
            with self.assertRaises(InvalidOperation):
                Operation({(word, word): word})

    def test_tables_that_are_none(self):
        wrong = [
            {}, {("a", "b"): "a"}, {("a", "a"): "b"}, {("a", "a"): "a", ("b", "b"): "b"},
            {("a", "a"): "a", ("a", "b"): "a", ("b", "a"): "a"},
            {("a", "a"): "a", ("a", "b"): "a", ("b", "a"): "a", ("b", "b"): "c"},
            {("a", "a"): "a", ("a", "b"): "a", ("b", "a"): "a", ("c", "c"): "a"},
            {("a", "a"): "a", "a": "a"}, {("a", "a"): "a", ("a", "a", "a"): "a"}, {("a", "a"): "a", ("a",): "a"},
            {("a", "a"): None}, {("a", "a"): ["a"]}, {("a", "a"): True}, {("a", "a"): ("a",)},
            {("a", True): "a"}, {("a", ("a", "a")): "a"}, {"aa": "a"}, [(("a", "a"), "a")], (("a", "a"), "a"),
        ]
        for table in wrong:
            with self.assertRaises(InvalidOperation) as caught:
                Operation(table)
            self.assertIs(caught.exception.value, table)

    def test_keys_in_any_order(self):
        table = random_table(["b", "a", "cc", "c"], ["a", "b", "c", "cc"], 5)
        keys = list(table)
        for seed in range(5):
            Random(seed).shuffle(keys)
            made = Operation({key: table[key] for key in keys})
            self.assertEqual(made.names(), ["a", "b", "c", "cc"])
            self.assertEqual(list(made.table()), sorted(table))
            self.assertEqual(made.table(), table)
            self.assertTrue(made == Operation(table))
            self.assertFalse(made != Operation(table))

    def test_do(self):
        table = stop_table()
        for first, second in table:
            self.assertEqual(Operation(table).do(first, second), table[(first, second)])

    def test_do_asks_for_values_one_by_one(self):
        for wrong in strange_objects():
            if isinstance(wrong, str) and wrong in stop().names():
                continue
            for first, second in [(wrong, "q"), ("q", wrong), (wrong, ["none", 1])]:
                with self.assertRaises(InvalidValue) as caught:
                    stop().do(first, second)
                self.assertIs(caught.exception.value, wrong)

    def test_equality(self):
        for one, other in product(small_operations()[:40], repeat=2):
            self.assertIs(one == other, one.table() == other.table())
            self.assertIs(one != other, one.table() != other.table())

    def test_never_equal_to_another_class(self):
        one = Operation({("p", "p"): "p"})
        for other in strange_objects() + [Kinds({("p", "p"): "p"}), one.table()]:
            if not isinstance(other, Operation):
                self.assertFalse(one == other)
                self.assertFalse(other == one)

    def test_nothing_passed_or_returned_is_held(self):
        table = stop_table()
        made = Operation(table)
        table[("q", "q")] = "mm"
        made.table().clear()
        made.names().append("x")
        self.assertEqual(made.table(), stop_table())
        self.assertEqual(made.names(), ["m", "mm", "o", "q", "qq"])
        self.assertEqual(made.do("q", "q"), "qq")


class ValuesTest(unittest.TestCase):
    def test_unlike_values_is_the_first_one(self):
        for operation in small_operations():
            unlike = [
                xyz for xyz in product(operation.names(), repeat=3)
                if brackets(operation, *xyz)[0] != brackets(operation, *xyz)[1]
            ]
            self.assertEqual(unlike_values(operation), unlike[0] if unlike else None)

    def test_values_from_is_the_least_closed_list(self):
        for operation in small_operations():
            names = operation.names()
            for mask in range(1, 2 ** len(names)):
                start = [name for at, name in enumerate(names) if mask >> at & 1]
                held = set(start)
                while True:
                    more = held | {operation.do(x, y) for x in held for y in held}
                    if more == held:
                        break
                    held = more
                self.assertEqual(values_from(operation, start), sorted(held))
                self.assertEqual(values_from(operation, start[::-1] + start), sorted(held))

    def test_values_from_asks_for_a_list_not_empty(self):
        for wrong in [[], ["q", "x"], ("q",), ["q", 1], ["q", ["q"]], "q", {"q": 1}, [True], None]:
            with self.assertRaises(InvalidValue) as caught:
                values_from(stop(), wrong)
            self.assertIs(caught.exception.value, wrong)


class MakersTest(unittest.TestCase):
    def test_stopping_sums_at_each_zero(self):
        values = ["d", "a", "cc", "b"]
        for zero in range(4):
            made = stopping_sums(values, zero)
            self.assertEqual(made.names(), sorted(values))
            for i, j in product(range(4), repeat=2):
                total = (i - zero) + (j - zero)
                place = total + zero
                want = values[0] if place < 0 else values[-1] if place > 3 else values[place]
                self.assertEqual(made.do(values[i], values[j]), want)
        self.assertEqual(stopping_sums(["a"], 0).table(), {("a", "a"): "a"})

    def test_stopping_sums_asks_for_a_position(self):
        for zero in [2, -1, True, False, None, "a", 10 ** 20, [0], (0,)]:
            with self.assertRaises(InvalidCount) as caught:
                stopping_sums(["a", "b"], zero)
            self.assertIs(caught.exception.value, zero)

    def test_differences(self):
        values = ["d", "a", "cc", "b", "e"]
        made = differences(values)
        for i, j in product(range(5), repeat=2):
            want = j - i if j >= i else j - i + 5
            self.assertEqual(made.do(values[i], values[j]), values[want])
        self.assertEqual(differences(["a"]).table(), {("a", "a"): "a"})

    def test_lists_of_words(self):
        for wrong in [[], ["a", "a"], ["a", "B"], ("a", "b"), ["a", 1], ["a", ["b"]], "ab", {"a": 1}, None, [True]]:
            for call in [lambda: stopping_sums(wrong, 0), lambda: stopping_sums(wrong, -1), lambda: differences(wrong)]:
                with self.assertRaises(InvalidValue) as caught:
                    call()
                self.assertIs(caught.exception.value, wrong)

    def test_swallowing(self):
        for operation in small_operations():
            made = swallowing(operation, "m")
            self.assertEqual(made.names(), sorted(operation.names() + ["m"]))
            for x, y in product(made.names(), repeat=2):
                want = "m" if "m" in (x, y) else operation.do(x, y)
                self.assertEqual(made.do(x, y), want)
            for wrong in [operation.names()[0], "", "M", "abcdefghi", 1, None, ["m"], operation]:
                with self.assertRaises(InvalidValue) as caught:
                    swallowing(operation, wrong)
                self.assertIs(caught.exception.value, wrong)

    def test_opposite(self):
        for operation in small_operations():
            table = operation.table()
            self.assertEqual(opposite(operation).table(), {(x, y): table[(y, x)] for x, y in table})
            self.assertTrue(opposite(opposite(operation)) == operation)

    def test_renamed(self):
        for operation in small_operations():
            names = operation.names()
            for fresh in [names[1:] + names[:1], ["w" * (at + 1) for at in range(len(names))], names]:
                sent = dict(zip(names, fresh))
                made = renamed(operation, dict(reversed(list(sent.items()))))
                self.assertEqual(made.names(), sorted(fresh))
                for x, y in product(names, repeat=2):
                    self.assertEqual(made.do(sent[x], sent[y]), sent[operation.do(x, y)])

    def test_renamed_asks_for_unlike_words(self):
        operation = Operation(random_table("ab", "ab", 1))
        for wrong in [
            {}, {"a": "x"}, {"a": "x", "b": "x"}, {"a": "x", "b": "y", "c": "z"}, {"a": "x", "b": "Y"}, {"a": "x", 1: "y"},
            {"a": "x", "b": ["y"]}, {"a": "x", ("b",): "y"}, {"a": "x", "c": "y"}, [("a", "x"), ("b", "y")], None, "ab",
            {"a": True, "b": False}, {"a": None, "b": "y"},
        ]:
            with self.assertRaises(InvalidMap) as caught:
                renamed(operation, wrong)
            self.assertIs(caught.exception.value, wrong)


class LikenessTest(unittest.TestCase):
    def test_is_likeness_by_all_partings(self):
        for operation in small_operations():
            right = all_likenesses(operation)
            for parting in all_partings(operation.names()):
                self.assertIs(is_likeness(operation, parting), parting in right)

    def test_is_likeness_by_any_object(self):
        operation = Operation({(x, y): "a" for x in "abc" for y in "abc"})
        for wrong in strange_objects() + [
            [["b"], ["a"], ["c"]], [["b", "a"], ["c"]], [["a"], ["b"]], [["a"], ["b"], ["c"], []], [[], ["a", "b", "c"]],
            [["a", "a", "b", "c"]], [["a", "b"], ["b", "c"]], [("a", "b", "c")], (["a", "b", "c"],), ["abc"],
            [["a", "b", "c", "d"]], [["a", "b", 1]], [["a", "b", ["c"]]], ["a", "b", "c"], {"a": ["a", "b", "c"]},
        ]:
            self.assertIs(is_likeness(operation, wrong), False)
        self.assertIs(is_likeness(operation, [["a", "b", "c"]]), True)
        self.assertIs(is_likeness(operation, [["a"], ["b"], ["c"]]), True)

    def test_likeness_by_is_the_least_one(self):
        for operation in small_operations():
            names = operation.names()
            likenesses = all_likenesses(operation)
            pairs = list(product(names, repeat=2))
            for told in [[]] + [[pair] for pair in pairs] + [pairs[1:3], pairs[-2:] * 2]:
                fitting = [one for one in likenesses if all(alike(one, x, y) for x, y in told)]
                found = likeness_by(operation, told)
                self.assertIn(found, fitting)
                self.assertTrue(is_likeness(operation, found))
                for one in fitting:
                    self.assertTrue(alike_pairs(found) <= alike_pairs(one))

    def test_likeness_by_asks_for_pairs(self):
        for wrong in [
            None, [("q",)], [("q", "q", "q")], [["q", "o"]], (("q", "o"),), [("q", "x")], [("q", 1)], [("q", ["o"])],
            {("q", "o"): 1}, "q", ["qq"], [()], [("q", "o"), None],
        ]:
            with self.assertRaises(InvalidLikeness) as caught:
                likeness_by(stop(), wrong)
            self.assertIs(caught.exception.value, wrong)

    def test_folded(self):
        for operation in small_operations():
            for likeness in all_likenesses(operation):
                made = folded(operation, likeness)
                self.assertEqual(made.names(), [part[0] for part in likeness])
                for one, other in product(likeness, repeat=2):
                    for x, y in product(one, other):
                        want = part_of(likeness, operation.do(x, y))[0]
                        self.assertEqual(made.do(one[0], other[0]), want)

    def test_folded_asks_for_a_likeness(self):
        cut = swallowing(differences(["z", "u", "t"]), "o")
        for wrong in [[["o", "z"], ["t"], ["u"]], [["t", "u", "z"], ["o"]], [["o"], ["t", "z", "u"]], [], None]:
            with self.assertRaises(InvalidLikeness) as caught:
                folded(cut, wrong)
            self.assertIs(caught.exception.value, wrong)

    def test_bracket_likeness_is_the_least_one(self):
        for operation in small_operations():
            likenesses = all_likenesses(operation)
            triples = list(product(operation.names(), repeat=3))
            found = bracket_likeness(operation)
            self.assertIn(found, likenesses)
            self.assertTrue(all(alike(found, *brackets(operation, *xyz)) for xyz in triples))
            self.assertIsNone(unlike_values(folded(operation, found)))
            for one in likenesses:
                fits = all(alike(one, *brackets(operation, *xyz)) for xyz in triples)
                self.assertIs(unlike_values(folded(operation, one)) is None, fits)
                if fits:
                    self.assertTrue(alike_pairs(found) <= alike_pairs(one))


class SizeTest(unittest.TestCase):
    def test_great_inputs_are_answered(self):
        for size in [9, 14, 40]:
            names = ["abcdefghijklmnopqrstuvwxyz"[at % 26] * (1 + at // 26) for at in range(size)]
            operation = Operation(random_table(names, names, size))
            self.assertEqual(operation.names(), sorted(names))
            self.assertIsNotNone(unlike_values(operation))
            likeness = bracket_likeness(operation)
            self.assertTrue(is_likeness(operation, likeness))
            self.assertEqual(len(folded(operation, likeness).names()), len(likeness))
            made = stopping_sums(names, size // 2)
            self.assertEqual(bracket_likeness(made), [sorted(names)])
            self.assertEqual(values_from(made, [names[0], names[-1], names[size // 2 + 1]]), sorted(names))
            turned = differences(names)
            self.assertTrue(is_likeness(turned, likeness_by(turned, [(names[0], names[2])])))


if __name__ == "__main__":
    unittest.main()
