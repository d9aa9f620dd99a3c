"""Section 8: equal folds."""

import unittest
from itertools import product
from random import Random

from shiftfolds.classes import coming
from shiftfolds.equals import (
    are_equal, are_inputs, equal_folds, free_parting, free_typing, is_free_parting, is_parting, is_parting_operation,
    is_shift_chain, parting_inputs, parting_operation, shift_chain, tells_all, value_of, verdict,
)
from shiftfolds.errors import InvalidCount, InvalidGrouping, InvalidInputs, InvalidRow, InvalidTriples
from shiftfolds.operations import Operation
from shiftfolds.rights import Base, kinds_base, right_triples
from shiftfolds.shifts import joined, plain
from shiftfolds.typings import Kinds, Typing, kinds_typing

from tests.folds import (
    SIGN_TRIPLES, all_triples, bent_groupings, class_by_deeds, classes_by_deeds, deeds, done_by, groupings, kind_of,
    mid_of, small_kinds, small_typings, some_bases, some_lots, some_rows, unsettled_typings,
)
from tests.helpers import brackets, signs, stop_typing, strange_folds, strange_objects

LEFT, RIGHT = [(0, 2), (0, 3)], [(0, 3), (1, 3)]
TOWER = [(0, 2), (0, 3), (0, 4)]


def turn_typing():
    """One kind of three values, two making the second less the first: equal folds that no shift joins."""
    turn = Operation({(x, y): "zut"[("zut".index(y) - "zut".index(x)) % 3] for x in "zut" for y in "zut"})
    return Typing(turn, Kinds({("a", "a"): "a"}), {"a": ["t", "u", "z"]})


def value_by_blocks(typed, grouping, inputs, first=None, end=None):
    """The value by doing block by block."""
    if first is None:
        first, end = 0, len(inputs)
    if end - first == 1:
        return inputs[first]
    mid = mid_of(grouping, (first, end))
    return typed.operation().do(
        value_by_blocks(typed, grouping, inputs, first, mid), value_by_blocks(typed, grouping, inputs, mid, end),
    )


def all_inputs(typed, row):
    return [list(values) for values in product(*[typed.holding()[kind] for kind in row])]


def cases(longest=4, most=300):
    """Typings and rows with not too many inputs."""
    for at, typed in enumerate([turn_typing()] + small_typings()[::9] + unsettled_typings()[::9]):
        for row in some_rows(typed.kinds(), longest, 1, at):
            if len(all_inputs(typed, row)) <= most:
                yield typed, row


def is_right_by_values(typed, triple):
    holding = typed.holding()
    return all(
        len(set(brackets(typed.operation(), x, y, z))) == 1
        for x in holding[triple[0]] for y in holding[triple[1]] for z in holding[triple[2]]
    )


def order_word(number):
    """The word at a place of a, b, .., z, aa, ab, .."""
    words = ["", *"abcdefghijklmnopqrstuvwxyz"]
    words += [one + other for one in words[1:] for other in words[1:]]
    return words[number + 1]


class ExamplesTest(unittest.TestCase):
    def test_signs(self):
        typed = stop_typing()
        self.assertEqual(value_of(typed, ["p", "p", "n"], LEFT, ["qq", "qq", "mm"]), "o")
        self.assertEqual(value_of(typed, ["p", "p", "n"], RIGHT, ["qq", "qq", "mm"]), "qq")
        self.assertIs(are_equal(typed, ["p", "n", "p"], LEFT, RIGHT), True)
        self.assertEqual(verdict(typed, ["p", "n", "p"], LEFT, RIGHT), "joined")
        self.assertIs(is_shift_chain(typed, ["p", "n", "p"], LEFT, RIGHT, [("right", 0, 1, 2, 3)]), True)
        self.assertEqual(verdict(typed, ["p", "p", "n"], LEFT, RIGHT), "unlike")
        self.assertIs(is_parting(typed, ["p", "p", "n"], LEFT, RIGHT, ["qq", "qq", "mm"]), True)
        self.assertEqual(len(equal_folds(typed, ["p", "p", "n"])), 2)
        other, inputs = free_parting(typed, ["p", "p", "n"], LEFT, RIGHT)
        one, two = [value_of(other, ["p", "p", "n"], grouping, inputs) for grouping in (LEFT, RIGHT)]
        self.assertNotEqual(one, two)

    def test_turn(self):
        typed = turn_typing()
        self.assertEqual(verdict(typed, ["a"] * 4, TOWER, [(0, 4), (1, 3), (1, 4)]), "equal")
        self.assertEqual(verdict(typed, ["a"] * 3, LEFT, RIGHT), "unlike")


class InputsTest(unittest.TestCase):
    def test_all_lists_of_values(self):
        for typed, row in cases(3):
            right = all_inputs(typed, row)
            for values in product(typed.operation().names(), repeat=len(row)):
                self.assertIs(are_inputs(typed, row, list(values)), list(values) in right)
                self.assertIs(are_inputs(typed, row, values), False)

    def test_any_object(self):
        typed, row, right = stop_typing(), ["p", "p", "n"], ["q", "o", "m"]
        self.assertIs(are_inputs(typed, row, right), True)
        for wrong in strange_objects() + strange_folds() + [
            tuple(right), right[:2], right + ["m"], ["m", "o", "m"], ["q", "o", "q"], ["q", "o", ["m"]], ["q", None, "m"],
            {"q": "o"}, "qom", ["q", "o", "x"], ["q", 1, "m"], ["p", "p", "n"],
        ]:
            self.assertIs(are_inputs(typed, row, wrong), False)
            with self.assertRaises(InvalidInputs) as caught:
                value_of(typed, row, LEFT, wrong)
            self.assertIs(caught.exception.value, wrong)
            self.assertIs(is_parting(typed, row, LEFT, RIGHT, wrong), False)

    def test_values_by_doing_block_by_block(self):
        for typed, row in cases(5, 100):
            for grouping in groupings(len(row)):
                for inputs in all_inputs(typed, row)[::3]:
                    told = value_of(typed, row, list(grouping), inputs)
                    self.assertEqual(told, value_by_blocks(typed, grouping, inputs))


class EqualTest(unittest.TestCase):
    def test_by_all_inputs(self):
        told = {"joined": 0, "equal": 0, "unlike": 0}
        for typed, row in cases():
            values = {
                grouping: [value_by_blocks(typed, grouping, inputs) for inputs in all_inputs(typed, row)]
                for grouping in groupings(len(row))
            }
            lists = {}
            for grouping in groupings(len(row)):
                lists.setdefault(tuple(values[grouping]), []).append(list(grouping))
            self.assertEqual(equal_folds(typed, row), sorted(lists.values()))
            classes = classes_by_deeds(typed.kinds(), right_triples(typed), row)
            for one, other in product(groupings(len(row)), repeat=2):
                wanted = "equal" if values[one] == values[other] else "unlike"
                if any(one in found and other in found for found in classes):
                    wanted = "joined"
                told[wanted] += 1
                self.check_two(typed, row, one, other, values, wanted)
        self.assertTrue(min(told.values()) > 20, told)

    def check_two(self, typed, row, one, other, values, wanted):
        two = (list(one), list(other))
        self.assertEqual(verdict(typed, row, *two), wanted)
        self.assertIs(are_equal(typed, row, *two), wanted != "unlike")
        inputs = parting_inputs(typed, row, *two)
        self.assertIs(inputs is None, wanted != "unlike")
        for at, each in enumerate(all_inputs(typed, row)):
            self.assertIs(is_parting(typed, row, *two, each), values[one][at] != values[other][at])
        if wanted == "unlike":
            self.assertIs(is_parting(typed, row, *two, inputs), True)
        else:
            self.assertEqual(values[one], values[other])

    def test_one_thing_and_two_things(self):
        self.assertEqual(equal_folds(stop_typing(), ["p"]), [[[]]])
        self.assertEqual(equal_folds(stop_typing(), ["p", "n"]), [[[(0, 2)]]])
        self.assertEqual(verdict(stop_typing(), ["p"], [], []), "joined")
        self.assertEqual(value_of(stop_typing(), ["p"], [], ["q"]), "q")


class ChainTest(unittest.TestCase):
    def test_chains_at_right_triples(self):
        joins = 0
        for typed, row in cases(5, 10 ** 6):
            right, kinds = right_triples(typed), typed.kinds()
            for one in groupings(len(row))[::3]:
                found = class_by_deeds(kinds, right, row, one)
                for other in groupings(len(row)):
                    chain = shift_chain(typed, row, list(one), list(other))
                    self.assertIs(chain is not None, other in found)
                    if chain is not None:
                        joins += len(chain) > 1
                        self.assertTrue(self.leads(kinds, set(right), row, one, other, chain))
                        self.assertIs(is_shift_chain(typed, row, list(one), list(other), chain), True)
                    elif other != one:
                        self.assertIs(is_shift_chain(typed, row, list(one), list(other), []), False)
        self.assertTrue(joins)

    def leads(self, kinds, right, row, one, other, chain):
        at = one
        for deed in chain:
            if deed not in deeds(kinds, right, row, at):
                return False
            at = done_by(at, deed)
        return at == other

    def test_other_chains_and_any_object(self):
        typed, row, deed, back = stop_typing(), ["p", "n", "p"], ("right", 0, 1, 2, 3), ("left", 0, 1, 2, 3)
        for right in [[deed], [deed, back, deed]]:
            self.assertIs(is_shift_chain(typed, row, LEFT, RIGHT, right), True)
        for wrong in strange_objects() + strange_folds() + [
            (deed,), [back], [deed, back], [deed, deed], [list(deed)], [("right", False, 1, 2, 3)], [("right", 0, True, 2, 3)],
            [deed, None], None, [],
        ]:
            if wrong != [deed] or isinstance(wrong[0][1], bool):
                self.assertIs(is_shift_chain(typed, row, LEFT, RIGHT, wrong), False)
        self.assertIs(is_shift_chain(typed, ["p", "p", "n"], LEFT, RIGHT, [deed]), False)


class FreeTypingTest(unittest.TestCase):
    def test_value_by_value(self):
        for at, kinds in enumerate(small_kinds()):
            for lot in some_lots(kinds, 1, at):
                for row in some_rows(kinds, 4 + at % 2, 1, at)[::2]:
                    self.check(kinds, lot, row)

    def classes(self, kinds, lot, row):
        """The stretches' classes, in their order: tuples of first, end, and of ALL groupings, the least one first."""
        found = []
        for first in range(len(row)):
            for end in range(first + 1, len(row) + 1):
                for part in classes_by_deeds(kinds, lot, row[first:end]):
                    moved = [tuple((one + first, other + first) for one, other in each) for each in part]
                    found.append((first, end, sorted(moved)))
        return sorted(found)

    def check(self, kinds, lot, row):
        typed, inputs = free_typing(kinds, lot, row)
        classes = self.classes(kinds, lot, row)
        words = {"f" + order_word(at): each for at, each in enumerate(classes)}
        own = {"s" + order_word(at): kind for at, kind in enumerate(kinds.names())}
        kind = {word: kind_of(kinds, row, each[0], each[1]) for word, each in words.items()}
        kind.update(own)
        self.assertTrue(typed.kinds() == kinds)
        self.assertEqual(typed.operation().names(), sorted(kind))
        for name in kinds.names():
            self.assertEqual(typed.holding()[name], sorted(word for word in kind if kind[word] == name))
        for one, other in product(kind, repeat=2):
            made = typed.operation().do(one, other)
            if one in words and other in words and words[one][1] == words[other][0]:
                first, end = words[one][0], words[other][1]
                whole = tuple(sorted(words[one][2][0] + words[other][2][0] + ((first, end),)))
                self.assertEqual((words[made][0], words[made][1]), (first, end))
                self.assertIn(whole, words[made][2])
            else:
                self.assertEqual(own[made], kinds.put(kind[one], kind[other]))
        things = {each[0]: word for word, each in words.items() if each[1] - each[0] == 1}
        self.assertEqual(inputs, [things[at] for at in range(len(row))])
        for triple in lot:
            self.assertTrue(is_right_by_values(typed, triple) or len(kind) > 30)
            self.assertIn(triple, right_triples(typed))
        for grouping in groupings(len(row)):
            told = value_of(typed, row, list(grouping), inputs)
            self.assertIn(grouping, words[told][2])

    def test_the_order_of_names(self):
        typed, inputs = free_typing(signs(), [], ["p", "n", "p", "p", "n"])
        names = typed.operation().names()
        self.assertEqual(len(names), 39 + 3)
        self.assertTrue({"fa", "fz", "faa", "fam", "sa", "sb", "sc"} <= set(names))
        self.assertFalse({"fan", "sd"} & set(names))
        self.assertEqual(inputs[0], "fa")
        self.assertEqual(inputs[-1], "fam")

    def test_wrong_arguments(self):
        for wrong in [[("p", "p", "p"), ("n", "n", "n")], (), None, [["p", "p", "p"]], [("p", "p", "x")], {}]:
            with self.assertRaises(InvalidTriples) as caught:
                free_typing(signs(), wrong, None)
            self.assertIs(caught.exception.value, wrong)
        for wrong in [[], ("p",), ["x"], None, "p", [["p"]]]:
            with self.assertRaises(InvalidRow) as caught:
                free_typing(signs(), [], wrong)
            self.assertIs(caught.exception.value, wrong)


class FreePartingTest(unittest.TestCase):
    def test_keeps_all_right_triples_and_parts(self):
        parts = 0
        for typed, row in cases(4, 10 ** 6):
            right = right_triples(typed)
            for one in groupings(len(row))[::2]:
                found = class_by_deeds(typed.kinds(), right, row, one)
                for other in groupings(len(row)):
                    told = free_parting(typed, row, list(one), list(other))
                    if other in found:
                        self.assertIsNone(told)
                        continue
                    parts += 1
                    self.assertTrue(self.parts(typed.kinds(), right, row, one, other, told))
                    self.assertIs(is_free_parting(typed, row, list(one), list(other), told), True)
                    self.assertIs(is_free_parting(typed, row, list(one), list(one), told), False)
        self.assertTrue(parts > 100)

    def parts(self, kinds, right, row, one, other, told):
        typed, inputs = told
        return (
            typed.kinds() == kinds and all(is_right_by_values(typed, triple) for triple in right)
            and inputs in all_inputs_of(typed, row, inputs)
            and value_by_blocks(typed, one, inputs) != value_by_blocks(typed, other, inputs)
        )

    def test_others_that_hold_by_the_words(self):
        held = 0
        for typed, row in cases(4, 200):
            for one, other in product(groupings(len(row))[::2], repeat=2):
                inputs = parting_inputs(typed, row, list(one), list(other))
                if inputs is not None:
                    held += 1
                    self.assertIs(is_free_parting(typed, row, list(one), list(other), (typed, inputs)), True)
                    self.assertIs(is_free_parting(typed, row, list(one), list(other), [typed, inputs]), False)
        self.assertTrue(held)

    def test_any_object(self):
        typed, row = stop_typing(), ["p", "p", "n"]
        right = (typed, ["qq", "qq", "mm"])
        self.assertIs(is_free_parting(typed, row, LEFT, RIGHT, right), True)
        other = Typing(typed.operation(), Kinds({(x, y): "a" for x in "anp" for y in "anp"}), typed.holding())
        # by these inputs the two part, but no triple of p and n is right in it
        broken = Typing(typed.operation(), signs(), {kind: typed.operation().names() for kind in "anp"})
        self.assertIs(is_parting(broken, row, LEFT, RIGHT, right[1]), True)
        for wrong in strange_objects() + strange_folds() + [
            list(right), right[:1], right + (0,), (typed, ("qq", "qq", "mm")), (typed, ["q", "q", "m"]), (typed, ["qq", "mm"]),
            (other, right[1]), (broken, right[1]), (typed.operation(), right[1]), (typed, None), (None, right[1]),
            (typed, ["qq", "qq", "q"]), (Base(typed, [], "left"), right[1]), right[::-1],
        ]:
            self.assertIs(is_free_parting(typed, row, LEFT, RIGHT, wrong), False)


def all_inputs_of(typed, row, inputs):
    """The inputs themselves if they are some: there are too many to list them all."""
    fits = len(inputs) == len(row) and all(word in typed.holding()[kind] for word, kind in zip(inputs, row))
    return [inputs] if fits else []


class PartingOperationTest(unittest.TestCase):
    def test_keeps_the_base_parts_and_is_small(self):
        parts = 0
        for at, base in enumerate(some_bases()[::3]):
            kinds = base.typed().kinds()
            for row in some_rows(kinds, 5, 1, at)[1:]:
                for one, other in product(groupings(len(row))[::4], groupings(len(row))[::3]):
                    told = parting_operation(base, row, list(one), list(other))
                    if joined(base, row, list(one), list(other)):
                        self.assertIsNone(told)
                        continue
                    parts += 1
                    self.check(base, row, one, other, told, parts % 5 == 0)
        self.assertTrue(parts > 100)

    def check(self, base, row, one, other, told, thorough):
        kinds = base.typed().kinds()
        typed, inputs = told
        self.assertTrue(typed.kinds() == kinds)
        self.assertEqual([inputs], all_inputs_of(typed, row, inputs))
        self.assertNotEqual(value_by_blocks(typed, one, inputs), value_by_blocks(typed, other, inputs))
        most = len(coming(base, row, list(one))) + len(row) + len(kinds.names())
        self.assertTrue(len(typed.operation().names()) <= most)
        if thorough:
            self.assertTrue(all(is_right_by_values(typed, triple) for triple in base.triples()))
        self.assertIs(is_parting_operation(base, row, list(one), list(other), told), True)
        self.assertIs(is_parting_operation(base, row, list(one), list(one), told), False)
        free = free_typing(kinds, base.triples(), row)
        self.assertIs(is_parting_operation(base, row, list(one), list(other), free), True)
        self.assertIs(is_parting_operation(base, row, list(one), list(other), list(told)), False)

    def test_triples_that_are_not_right_there(self):
        base, row = Base(stop_typing(), SIGN_TRIPLES, "right"), ["p", "p", "n"]
        free = free_typing(signs(), [], ["p", "n", "p"])
        self.assertIs(is_parting_operation(base, ["p", "n", "p"], LEFT, RIGHT, free), False)
        self.assertIs(is_parting_operation(base, row, LEFT, RIGHT, (stop_typing(), ["qq", "qq", "mm"])), True)
        self.assertIs(is_parting_operation(base, row, LEFT, RIGHT, (stop_typing(), ["qq", "qq", "m"])), True)
        self.assertIs(is_parting_operation(base, row, LEFT, RIGHT, (stop_typing(), ["q", "q", "m"])), False)

    def test_any_object(self):
        base, row = Base(stop_typing(), SIGN_TRIPLES, "left"), ["p", "p", "n"]
        right = parting_operation(base, row, LEFT, RIGHT)
        for wrong in strange_objects() + strange_folds() + [
            list(right), right[:1], right + (0,), (right[0], tuple(right[1])), (right[0], right[1][:2]), (right[0], None),
            (right[1], right[0]), (kinds_typing(Kinds({("p", "p"): "p"})), right[1]), None,
        ]:
            self.assertIs(is_parting_operation(base, row, LEFT, RIGHT, wrong), False)
        self.assertIs(is_parting_operation(base, row, LEFT, RIGHT, right), True)


class TellsAllTest(unittest.TestCase):
    def test_by_all_rows(self):
        found = set()
        for typed in [turn_typing()] + small_typings()[::17] + unsettled_typings()[::17]:
            kinds = typed.kinds()
            for size in (1, 2, 3, 4):
                if len(kinds.names()) ** size * max(map(len, typed.holding().values())) ** size > 7000:
                    continue
                wanted = all(
                    verdict(typed, list(row), list(one), list(other)) != "equal"
                    for many in range(1, size + 1) for row in product(kinds.names(), repeat=many)
                    for one, other in product(groupings(many), repeat=2) if one < other
                )
                found.add((size, wanted))
                self.assertIs(tells_all(typed, size), wanted)
        self.assertTrue({(4, True), (4, False), (3, True)} <= found, found)

    def test_edges(self):
        self.assertIs(tells_all(turn_typing(), 3), True)
        self.assertIs(tells_all(turn_typing(), 4), False)
        for wrong in strange_objects() + strange_folds() + [0, -1, True, False, None, "1"]:
            if isinstance(wrong, int) and not isinstance(wrong, bool) and wrong > 0:
                continue
            with self.assertRaises(InvalidCount) as caught:
                tells_all(turn_typing(), wrong)
            self.assertIs(caught.exception.value, wrong)


class GroupingsTest(unittest.TestCase):
    def test_functions_ask_for_groupings_one_by_one(self):
        typed, base, row = stop_typing(), Base(stop_typing(), SIGN_TRIPLES, "right"), ["p", "p", "n", "p"]
        calls = [are_equal, parting_inputs, free_parting, shift_chain, verdict] + [
            lambda *told, call=call: call(*told, None) for call in (is_parting, is_free_parting, is_shift_chain)
        ]
        for wrong in bent_groupings([(0, 2), (0, 4), (2, 4)])[::2] + [[], plain(3), plain(5)]:
            found = [(call, typed) for call in calls]
            found += [(parting_operation, base), (lambda *told: is_parting_operation(*told, None), base)]
            for call, elder in found:
                for two in [(wrong, 1), (plain(4), wrong)]:
                    with self.assertRaises(InvalidGrouping) as caught:
                        call(elder, row, *two)
                    self.assertIs(caught.exception.value, wrong)
            with self.assertRaises(InvalidGrouping) as caught:
                value_of(typed, row, wrong, None)
            self.assertIs(caught.exception.value, wrong)


class SizeTest(unittest.TestCase):
    def test_a_thousand_inputs_of_six_things(self):
        names = ["o" + letter for letter in "abcdefghi"]
        chance = Random(1)
        operation = Operation({(x, y): chance.choice(names) for x in names for y in names})
        kinds = Kinds({(x, y): max(x, y) for x in "abcd" for y in "abcd"})
        typed = Typing(operation, kinds, {kind: names for kind in "abcd"})
        few = Typing(Operation({(x, y): "oa" for x in names for y in names}), kinds, {
            "a": names[:3], "b": names[:3], "c": names[:3], "d": names[:4],
        })
        row = ["a", "b", "c", "a", "b", "d"]
        self.assertEqual(equal_folds(few, row), [[list(grouping) for grouping in groupings(6)]])
        self.assertEqual(verdict(few, row, plain(6), [(at, 6) for at in range(5)]), "joined")
        self.assertIs(tells_all(few, 4), True)
        self.assertEqual(verdict(typed, row, plain(6), [(at, 6) for at in range(5)]), "unlike")
        told = free_parting(typed, row, plain(6), [(at, 6) for at in range(5)])
        self.assertIs(is_free_parting(typed, row, plain(6), [(at, 6) for at in range(5)], told), True)

    def test_parting_operations_of_nine_things(self):
        kinds = Kinds({(x, y): y for x in "az" for y in "az"})
        base, row = kinds_base(kinds, [("a", "a", "z")], "right"), ["a"] * 7 + ["z", "a"]
        other = [(0, 9)] + [(1, end) for end in range(3, 10)]
        told = parting_operation(base, row, plain(9), other)
        self.assertEqual(len(told[0].operation().names()), 302 + 9 + 2)
        self.assertIs(is_parting_operation(base, row, plain(9), other, told), True)
        self.assertIs(is_parting_operation(base, row, plain(9), plain(9), told), False)
        every = kinds_base(kinds, all_triples(kinds), "left")
        self.assertIsNone(parting_operation(every, row, plain(9), other))

    def test_large_operations_with_one_wrong_triple(self):
        kinds = Kinds({(x, y): y for x in "az" for y in "az"})
        base, row = kinds_base(kinds, [("a", "a", "z")], "right"), ["a"] * 5 + ["z", "a"]
        other = [(0, 7)] + [(1, end) for end in range(3, 8)]
        typed, inputs = parting_operation(base, row, plain(7), other)
        table, holding = typed.operation().table(), typed.holding()
        pair = next(
            pair for pair in table if pair[0] in holding["a"] and pair[1] in holding["z"] and table[pair][0] == "f"
        )
        table[pair] = "sb"
        bent = Typing(Operation(table), kinds, holding)
        wrong = not is_right_by_values(bent, ("a", "a", "z"))
        parts = is_parting(bent, row, plain(7), other, inputs)
        self.assertTrue(wrong)
        self.assertIs(is_parting_operation(base, row, plain(7), other, (bent, inputs)), parts and not wrong)


if __name__ == "__main__":
    unittest.main()
