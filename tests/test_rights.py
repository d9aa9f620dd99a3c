"""Section 5: right triples, lots, bases."""

import unittest
from itertools import combinations, product

from shiftfolds.errors import InvalidBase, InvalidTriples, InvalidWord, Unsettled
from shiftfolds.operations import Operation, opposite
from shiftfolds.rights import (
    Base, are_parting_values, greatest_lots, is_missing, is_right, is_settled, kinds_base, mirrored_base,
    missing_triple, parting_values, right_base, right_triples,
)
from shiftfolds.typings import Kinds, Typing, kinds_typing

from tests.folds import (
    SIGN_TRIPLES, all_triples, closed, missing_triples, small_kinds, small_typings, some_bases, some_lots, triple_rules,
    unsettled_typings,
)
from tests.helpers import brackets, signs, stop, stop_typing, strange_objects

WORDS = ("right", "left")


def right_by_values(typed):
    """ALL right triples, by ALL values."""
    holding = typed.holding()
    return [
        (a, b, c) for a, b, c in product(typed.kinds().names(), repeat=3) if all(
            len(set(brackets(typed.operation(), x, y, z))) == 1
            for x in holding[a] for y in holding[b] for z in holding[c]
        )
    ]


class ExamplesTest(unittest.TestCase):
    def test_signs(self):
        typed = stop_typing()
        self.assertEqual(right_triples(typed), SIGN_TRIPLES)
        self.assertIs(is_right(typed, ("p", "n", "p")), True)
        self.assertIsNone(parting_values(typed, ("p", "n", "p")))
        self.assertIs(are_parting_values(typed, ("p", "p", "n"), ("q", "qq", "m")), True)
        self.assertIs(are_parting_values(typed, ("p", "p", "n"), ("q", "q", "m")), False)
        self.assertIs(is_settled(signs(), right_triples(typed), "right"), True)
        self.assertIs(is_settled(signs(), right_triples(typed), "left"), True)
        self.assertEqual(right_base(typed, "right").word(), "right")
        self.assertTrue(mirrored_base(right_base(typed, "right")) == right_base(typed, "left"))
        self.assertEqual([len(lot) for lot in greatest_lots(typed, "right")], [6])

    def test_seen(self):
        seen = Kinds({("e", "e"): "e", ("e", "u"): "e", ("u", "e"): "e", ("u", "u"): "u"})
        cuts = kinds_base(seen, [("u", "u", "e")], "right")
        four, triple = ("e", "u", "u", "u"), ("u", "u", "u")
        self.assertEqual(len(right_triples(cuts.typed())), 8)
        self.assertIs(is_settled(seen, [("u", "u", "e")], "right"), True)
        self.assertEqual(missing_triple(seen, [("e", "u", "u")], "right"), (four, triple))
        self.assertIs(is_missing(seen, [("e", "u", "u")], "right", (four, triple)), True)
        self.assertEqual(cuts.triples(), [("u", "u", "e")])


class RightTest(unittest.TestCase):
    def test_all_triples_by_all_values(self):
        mixed = 0
        for typed in small_typings() + unsettled_typings():
            right = right_by_values(typed)
            self.assertEqual(right_triples(typed), right)
            mixed += 0 < len(right) < len(typed.kinds().names()) ** 3
            for triple in all_triples(typed.kinds()):
                self.assertIs(is_right(typed, triple), triple in right)
        self.assertTrue(mixed)

    def test_parting_values_by_all_values(self):
        for typed in small_typings()[::2]:
            holding, names = typed.holding(), typed.operation().names()
            for triple in all_triples(typed.kinds()):
                parting = [
                    values for values in product(*[holding[kind] for kind in triple])
                    if len(set(brackets(typed.operation(), *values))) == 2
                ]
                told = parting_values(typed, triple)
                if parting:
                    self.assertIn(told, parting)
                    self.assertIs(are_parting_values(typed, triple, told), True)
                else:
                    self.assertIsNone(told)
                if len(names) < 4:
                    for values in product(names, repeat=3):
                        self.assertIs(are_parting_values(typed, triple, values), values in parting)

    def test_large_operations_that_mostly_make_one_value(self):
        # nearly all pairs make o: a triple is wrong for few values alone, wherever they stand
        names = [chr(97 + at) for at in range(12)] + ["o"]
        for one, two, three in [("a", "b", "c"), ("k", "a", "b"), ("a", "a", "a"), ("b", "a", "l")]:
            for bent in range(2):
                made = {(x, y): "o" for x in names for y in names}
                made[(one, two)] = "h"
                made[("h", three)] = "g"
                if bent == 0 and one != two:
                    made[(two, three)] = "i"
                    made[(one, "i")] = "g"
                operation = Operation(made)
                typed = Typing(operation, Kinds({("k", "k"): "k"}), {"k": sorted(names)})
                wrong = [
                    values for values in product(names, repeat=3) if len(set(brackets(operation, *values))) == 2
                ]
                told = parting_values(typed, ("k", "k", "k"))
                self.assertIs(is_right(typed, ("k", "k", "k")), not wrong)
                if wrong:
                    self.assertIn(told, wrong)

    def test_objects_that_are_no_triples(self):
        for wrong in strange_objects() + [["p", "p", "p"], ("p", "p"), ("p",) * 4, ("p", "p", "x"), ("p", "p", ["p"])]:
            for call in [
                lambda: is_right(stop_typing(), wrong), lambda: parting_values(stop_typing(), wrong),
                lambda: are_parting_values(stop_typing(), wrong, None),
            ]:
                with self.assertRaises(InvalidTriples) as caught:
                    call()
                self.assertIs(caught.exception.value, wrong)

    def test_any_object_as_parting_values(self):
        triple = ("p", "p", "n")
        for wrong in strange_objects() + [
            ["q", "qq", "m"], ("q", "qq"), ("q", "qq", "m", "m"), ("q", "qq", "qq"), ("m", "qq", "m"), ("q", "qq", ["m"]),
        ]:
            self.assertIs(are_parting_values(stop_typing(), triple, wrong), False)


class SettledTest(unittest.TestCase):
    def test_all_lots_of_two_kinds(self):
        for kinds in small_kinds()[:9]:
            triples = all_triples(kinds)
            for word in WORDS:
                rules = triple_rules(kinds, word)
                for size in range(len(triples) + 1):
                    for lot in combinations(triples, size):
                        known = set(lot)
                        settled = all(
                            known.issuperset(asked) for _, asking, asked in rules if known.issuperset(asking)
                        )
                        self.assertIs(is_settled(kinds, list(lot), word), settled)

    def test_missing_by_all_fours(self):
        for kinds in small_kinds():
            for word in WORDS:
                for lot in some_lots(kinds, 6):
                    missing = missing_triples(kinds, lot, word)
                    told = missing_triple(kinds, lot, word)
                    self.assertIs(is_settled(kinds, lot, word), not missing)
                    self.assertTrue(told in missing if missing else told is None)
                    fours = product(kinds.names(), repeat=4)
                    values = list(product(fours, all_triples(kinds)))
                    # ALL tuples of few kinds, and of more of them those told and some others
                    for value in values if len(kinds.names()) < 3 else missing[:20] + values[::97]:
                        self.assertIs(is_missing(kinds, lot, word, value), value in missing)

    def test_any_object_as_missing(self):
        kinds, lot = Kinds({("e", "e"): "e", ("e", "u"): "e", ("u", "e"): "e", ("u", "u"): "u"}), [("e", "u", "u")]
        four, triple = ("e", "u", "u", "u"), ("u", "u", "u")
        self.assertIs(is_missing(kinds, lot, "right", (four, triple)), True)
        for wrong in strange_objects() + [
            [four, triple], (four,), (four, triple, triple), (list(four), triple), (four, list(triple)), (triple, four),
            (four[:3], triple), (four, triple[:2]), (four, None), (None, triple), (four, ("u", "u", "x")), (four, four),
        ]:
            self.assertIs(is_missing(kinds, lot, "right", wrong), False)

    def test_lots_that_are_none(self):
        for wrong in strange_objects() + [
            [("p", "p", "p"), ("n", "n", "n")], [("p", "p", "p")] * 2, (("p", "p", "p"),), [["p", "p", "p"]],
            [("p", "p")], [("p", "p", "x")], [("n", "n", "n"), None], [("n", "n", "n"), ("p", ["p"], "p")],
        ]:
            if wrong == []:
                continue
            for call in [
                lambda: is_settled(signs(), wrong, None), lambda: missing_triple(signs(), wrong, None),
                lambda: is_missing(signs(), wrong, None, None), lambda: kinds_base(signs(), wrong, None),
                lambda: Base(stop_typing(), wrong, None),
            ]:
                with self.assertRaises(InvalidTriples) as caught:
                    call()
                self.assertIs(caught.exception.value, wrong)


class BaseTest(unittest.TestCase):
    def test_parts(self):
        for word in WORDS:
            base = Base(stop_typing(), SIGN_TRIPLES[1:2], word)
            self.assertTrue(base.typed() == stop_typing())
            self.assertEqual((base.triples(), base.word()), (SIGN_TRIPLES[1:2], word))

    def test_triples_have_to_be_right(self):
        for typed in small_typings()[::4]:
            right = right_by_values(typed)
            for triple in all_triples(typed.kinds()):
                triples = [triple]
                if triple not in right:
                    for word in ("right", "left", "no"):
                        with self.assertRaises(InvalidTriples) as caught:
                            Base(typed, triples, word)
                        self.assertIs(caught.exception.value, triples)
                else:
                    self.assertRaises(InvalidWord, Base, typed, triples, "no")

    def test_unsettled_with_the_very_list(self):
        unsettled = 0
        for kinds in small_kinds():
            typed = kinds_typing(kinds)
            for word in WORDS:
                for lot in some_lots(kinds, 8):
                    if not missing_triples(kinds, lot, word):
                        self.assertEqual(Base(typed, lot, word).triples(), lot)
                        self.assertTrue(kinds_base(kinds, lot, word) == Base(typed, lot, word))
                        continue
                    unsettled += 1
                    for call in [lambda: Base(typed, lot, word), lambda: kinds_base(kinds, lot, word)]:
                        with self.assertRaises(Unsettled) as caught:
                            call()
                        self.assertIs(caught.exception.value, lot)
                    self.assertRaises(InvalidWord, Base, typed, lot, "up")
                    self.assertRaises(InvalidWord, kinds_base, kinds, lot, "up")
        self.assertTrue(unsettled)

    def test_right_base(self):
        settled, unsettled = 0, 0
        for typed in small_typings() + unsettled_typings():
            right = right_by_values(typed)
            for word in WORDS:
                if missing_triples(typed.kinds(), right, word):
                    unsettled += 1
                    with self.assertRaises(Unsettled) as caught:
                        right_base(typed, word)
                    self.assertEqual(caught.exception.value, right)
                    self.assertRaises(InvalidWord, right_base, typed, "up")
                else:
                    settled += 1
                    self.assertTrue(right_base(typed, word) == Base(typed, right, word))
        self.assertTrue(settled and unsettled)

    def test_equal_exactly_if_all_three_are(self):
        typed, other = stop_typing(), Typing(stop(), signs(), {kind: stop().names() for kind in "anp"})
        bases = [Base(typed, lot, word) for word in WORDS for lot in ([], SIGN_TRIPLES, SIGN_TRIPLES[1:2])]
        bases += [Base(other, [], "right"), kinds_base(signs(), [], "right"), kinds_base(signs(), SIGN_TRIPLES, "left")]
        for one, two in product(bases, repeat=2):
            self.assertIs(one == two, one is two)
            self.assertIs(one != two, one is not two)
        self.assertTrue(Base(typed, SIGN_TRIPLES, "left") == Base(stop_typing(), list(SIGN_TRIPLES), "left"))
        for wrong in strange_objects() + [typed, signs(), SIGN_TRIPLES, "right"]:
            self.assertFalse(bases[0] == wrong)
            self.assertFalse(wrong == bases[0])

    def test_nothing_passed_or_returned_is_held(self):
        triples = list(SIGN_TRIPLES)
        base = Base(stop_typing(), triples, "right")
        triples.clear()
        base.triples().clear()
        base.typed().holding().clear()
        self.assertEqual(base.triples(), SIGN_TRIPLES)
        self.assertTrue(base == Base(stop_typing(), SIGN_TRIPLES, "right"))

    def test_kinds_base(self):
        for base in some_bases()[2:]:
            kinds = base.typed().kinds()
            self.assertTrue(base.typed() == kinds_typing(kinds))
            self.assertEqual(right_triples(base.typed()), all_triples(kinds))


class GreatestLotsTest(unittest.TestCase):
    def test_against_all_lots_of_right_triples(self):
        several = 0
        for typed in small_typings() + unsettled_typings()[::2]:
            right = right_by_values(typed)
            for word in WORDS:
                if len(right) > 8 and missing_triples(typed.kinds(), right, word):
                    continue
                wanted = greatest_by_all(typed.kinds(), right, word)
                self.assertEqual(greatest_lots(typed, word), wanted)
                several += len(wanted) > 1
        self.assertTrue(several)

    def test_ten_right_triples_and_all_of_them(self):
        for kinds in small_kinds():
            lot = greatest_lots(kinds_typing(kinds), "left")
            self.assertEqual(lot, [all_triples(kinds)])

    def test_no_right_triple(self):
        typed = next(typed for typed in small_typings() if not right_by_values(typed))
        self.assertEqual([greatest_lots(typed, word) for word in WORDS], [[[]], [[]]])
        self.assertEqual(right_base(typed, "left").triples(), [])


def greatest_by_all(kinds, right, word):
    if not missing_triples(kinds, right, word):
        return [right]
    rules = [(set(asking), set(asked)) for _, asking, asked in triple_rules(kinds, word) if set(asking) <= set(right)]
    found = []
    for size in range(len(right), -1, -1):
        for lot in combinations(right, size):
            known = set(lot)
            if all(asked <= known for asking, asked in rules if asking <= known):
                if not any(known <= set(greater) for greater in found):
                    found.append(list(lot))
    return sorted(found)


class MirroredTest(unittest.TestCase):
    def test_made_the_other_way_about(self):
        for base in some_bases() + [Base(stop_typing(), SIGN_TRIPLES[1:2], "right")]:
            mirrored = mirrored_base(base)
            typed, other = base.typed(), mirrored.typed()
            self.assertTrue(other.operation() == opposite(typed.operation()))
            for one, two in product(typed.kinds().names(), repeat=2):
                self.assertEqual(other.kinds().put(one, two), typed.kinds().put(two, one))
            self.assertEqual(other.holding(), typed.holding())
            self.assertEqual(mirrored.triples(), sorted(triple[::-1] for triple in base.triples()))
            self.assertEqual({mirrored.word(), base.word()}, {"right", "left"})
            self.assertTrue(mirrored_base(mirrored) == base)

    def test_asks_for_a_base(self):
        for wrong in strange_objects() + [stop_typing(), signs()]:
            with self.assertRaises(InvalidBase) as caught:
                mirrored_base(wrong)
            self.assertIs(caught.exception.value, wrong)


class SizeTest(unittest.TestCase):
    def test_great_inputs_are_answered(self):
        for size, letters in [(9, "abcd"), (14, "abcde")]:
            names = ["o" + chr(97 + at) for at in range(size)]
            operation = Operation({(x, y): max(x, y) for x in names for y in names})
            kinds = Kinds({(x, y): max(x, y) for x in letters for y in letters})
            typed = Typing(operation, kinds, {kind: names for kind in letters})
            self.assertEqual(len(right_triples(typed)), len(letters) ** 3)
            self.assertEqual(len(right_base(typed, "left").triples()), len(letters) ** 3)
            self.assertEqual([len(lot) for lot in greatest_lots(typed, "right")], [len(letters) ** 3])
            self.assertIsNone(missing_triple(kinds, all_triples(kinds), "left"))


if __name__ == "__main__":
    unittest.main()
