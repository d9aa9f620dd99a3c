"""Section 7: rows, groupings and shifts."""

import unittest
from itertools import combinations, product
from random import Random

from shiftfolds.errors import InvalidCount, InvalidDeed, InvalidGrouping, InvalidRow, InvalidWord
from shiftfolds.operations import Operation
from shiftfolds.rights import Base, is_settled, kinds_base, right_triples
from shiftfolds.shifts import (
    chain_between, done, hull, is_chain, is_grouping, is_row, joined, let_deeds, plain, side,
)
from shiftfolds.typings import Kinds, Typing, kinds_typing

from tests.folds import (
    SIGN_TRIPLES, all_triples, bent_groupings, class_by_deeds, classes_by_deeds, closed, deeds, done_by, folds,
    groupings, laminar_lists, missing_triples, small_kinds, small_typings, some_lots, some_rows, unsettled_typings,
)
from tests.helpers import signs, stop_typing, strange_objects

HALVES = [(0, 2), (0, 4), (2, 4)]
ROW = ["p", "p", "n", "p"]


class ExamplesTest(unittest.TestCase):
    def test_signs(self):
        base, kinds = Base(stop_typing(), SIGN_TRIPLES, "right"), signs()
        self.assertEqual(plain(4), [(0, 2), (0, 3), (0, 4)])
        self.assertIs(is_grouping(4, HALVES), True)
        self.assertEqual(let_deeds(kinds, SIGN_TRIPLES, ROW, plain(4)), [("right", 0, 2, 3, 4)])
        self.assertEqual(done(kinds, SIGN_TRIPLES, ROW, plain(4), ("right", 0, 2, 3, 4)), HALVES)
        self.assertIs(joined(base, ROW, plain(4), HALVES), True)
        self.assertIs(is_chain(kinds, SIGN_TRIPLES, ROW, plain(4), HALVES, [("right", 0, 2, 3, 4)]), True)
        self.assertIsNone(chain_between(base, ROW, plain(4), [(0, 4), (1, 4), (2, 4)]))
        self.assertEqual(hull(kinds, SIGN_TRIPLES, "right"), SIGN_TRIPLES)
        self.assertEqual(len(hull(kinds, [("p", "n", "p"), ("p", "p", "n")], "right")), 4)
        self.assertEqual(side(stop_typing(), ROW, plain(4), HALVES), "joined")
        self.assertEqual(side(stop_typing(), ROW, plain(4), [(0, 4), (1, 4), (2, 4)]), "apart")


class RowTest(unittest.TestCase):
    def test_any_object(self):
        for row in [["a"], ["p", "n", "a"], ["p"] * 12, ["n", "n"]]:
            self.assertIs(is_row(signs(), row), True)
        for wrong in strange_objects() + [
            [], ("a", "n"), ["a", "x"], ["a", ["n"]], [None], "an", {"a": "n"}, ["a", 1], ["a", "N"], [("a",)],
        ]:
            if wrong != ["a"]:
                self.assertIs(is_row(signs(), wrong), False)

    def test_functions_ask_for_rows(self):
        base = Base(stop_typing(), SIGN_TRIPLES, "right")
        for wrong in [[], ("p",), ["x"], ["p", None], None, "p", {}, ["p", ["p"]], True, ["p", "q"]]:
            for call in [
                lambda: let_deeds(signs(), [], wrong, None), lambda: done(signs(), [], wrong, None, None),
                lambda: is_chain(signs(), [], wrong, None, None, None), lambda: joined(base, wrong, None, None),
                lambda: chain_between(base, wrong, None, None), lambda: side(stop_typing(), wrong, None, None),
            ]:
                with self.assertRaises(InvalidRow) as caught:
                    call()
                self.assertIs(caught.exception.value, wrong)


class GroupingTest(unittest.TestCase):
    def test_all_groupings(self):
        for size in range(1, 6):
            wanted = [list(grouping) for grouping in groupings(size)]
            self.assertEqual(sorted(laminar_lists(size)), wanted)
            blocks = [(first, end) for first in range(size) for end in range(first + 2, size + 1)]
            for many in (size - 2, size - 1, size):
                for found in combinations(blocks, max(0, many)):
                    self.assertIs(is_grouping(size, list(found)), list(found) in wanted)

    def test_plain(self):
        for size in range(1, 14):
            self.assertEqual(plain(size), [(0, end) for end in range(2, size + 1)])
            self.assertIs(is_grouping(size, plain(size)), True)
            self.assertIs(is_grouping(size + 1, plain(size)), False)

    def test_any_object(self):
        for wrong in strange_objects() + bent_groupings(HALVES):
            self.assertIs(is_grouping(4, wrong), False, wrong)
        self.assertIs(is_grouping(1, []), True)
        self.assertIs(is_grouping(2, []), False)
        self.assertIs(is_grouping(2, [(False, 2)]), False)
        self.assertIs(is_grouping(2, [(0, 2)]), True)
        self.assertIs(is_grouping(3, [(0, 3), (True, 3)]), False)
        self.assertIs(is_grouping(3, [(0, 3), (1, 3)]), True)

    def test_overlaps_and_bounds(self):
        for wrong in [
            [(0, 2), (0, 4), (1, 3)], [(0, 3), (0, 4), (1, 4)], [(0, 2), (0, 3), (0, 5)], [(0, 2), (0, 4), (0, 4)],
            [(0, 4), (0, 2), (2, 4)], [(0, 1), (0, 2), (0, 4)], [(0, 2), (0, 3)], [(0, 2), (0, 3), (0, 4), (2, 4)],
        ]:
            self.assertIs(is_grouping(4, wrong), False)

    def test_sizes(self):
        for wrong in strange_objects() + [0, -1, "1", None, True, False, [1], (1,)]:
            if isinstance(wrong, int) and not isinstance(wrong, bool) and wrong >= 1:
                continue
            for call in [lambda: is_grouping(wrong, None), lambda: plain(wrong)]:
                with self.assertRaises(InvalidCount) as caught:
                    call()
                self.assertIs(caught.exception.value, wrong)

    def test_functions_ask_for_groupings_one_by_one(self):
        base = Base(stop_typing(), SIGN_TRIPLES, "right")
        for wrong in bent_groupings(HALVES) + [[], plain(3), plain(5)]:
            for call in [
                lambda: let_deeds(signs(), [], ROW, wrong), lambda: done(signs(), [], ROW, wrong, None),
                lambda: is_chain(signs(), [], ROW, wrong, 1, None), lambda: is_chain(signs(), [], ROW, HALVES, wrong, 1),
                lambda: joined(base, ROW, wrong, 1), lambda: joined(base, ROW, HALVES, wrong),
                lambda: chain_between(base, ROW, wrong, 1), lambda: chain_between(base, ROW, HALVES, wrong),
                lambda: side(stop_typing(), ROW, wrong, 1), lambda: side(stop_typing(), ROW, HALVES, wrong),
            ]:
                with self.assertRaises(InvalidGrouping) as caught:
                    call()
                self.assertIs(caught.exception.value, wrong)


def deed_cases():
    for at, kinds in enumerate(small_kinds()):
        for lot in some_lots(kinds, 1, at):
            for row in some_rows(kinds, 5, 1, at):
                yield kinds, lot, row


class DeedTest(unittest.TestCase):
    def test_let_deeds_and_what_they_make(self):
        for kinds, lot, row in deed_cases():
            for grouping in groupings(len(row)):
                wanted = deeds(kinds, set(lot), row, grouping)
                self.assertEqual(let_deeds(kinds, lot, row, list(grouping)), wanted)
                for deed in wanted:
                    self.assertEqual(done(kinds, lot, row, list(grouping), deed), list(done_by(grouping, deed)))

    def test_deeds_that_do_not_fit_or_are_not_let(self):
        for kinds, lot, row in list(deed_cases())[::3]:
            for grouping in groupings(len(row))[::2]:
                wanted = deeds(kinds, set(lot), row, grouping)
                for word, places in product(("right", "left"), combinations(range(len(row) + 2), 4)):
                    deed = (word, *places)
                    if deed not in wanted:
                        with self.assertRaises(InvalidDeed) as caught:
                            done(kinds, lot, row, list(grouping), deed)
                        self.assertIs(caught.exception.value, deed)

    def test_objects_that_are_no_deeds(self):
        for wrong in strange_objects() + wrong_deeds(("right", 0, 2, 3, 4)):
            with self.assertRaises(InvalidDeed) as caught:
                done(signs(), SIGN_TRIPLES, ROW, plain(4), wrong)
            self.assertIs(caught.exception.value, wrong)

    def test_true_and_false_are_no_places(self):
        row, triples = ["p"] * 3, [("p", "p", "p")]
        self.assertEqual(done(signs(), triples, row, plain(3), ("right", 0, 1, 2, 3)), [(0, 3), (1, 3)])
        for wrong in [("right", False, 1, 2, 3), ("right", 0, True, 2, 3)]:
            self.assertRaises(InvalidDeed, done, signs(), triples, row, plain(3), wrong)
            self.assertIs(is_chain(signs(), triples, row, plain(3), [(0, 3), (1, 3)], [wrong]), False)


def wrong_deeds(deed):
    """Objects near a deed that fits and is let at the plain grouping of four things."""
    return [
        list(deed), deed[:4], deed + (5,), ("left",) + deed[1:], ("up",) + deed[1:], (None,) + deed[1:], deed[1:],
        (["right"],) + deed[1:], ("right", 0, 1, 2, 4), ("right", 0, 2, 3, "4"), ("right", 0, 2, 3, [4]), (deed,), [deed],
        ("right", False, 2, 3, 4), ("right", 0, 2, 4, 3), ("right", 0, 2, 2, 4), ("right", -4, 2, 3, 4), ("right", 0, 2, 3, 5),
        ("right", 0, 1, 2, 3), ("right", 0, 2, 3, None), ("right", 0, 2, 3, signs()),
    ]


class ChainTest(unittest.TestCase):
    def walk(self, kinds, lot, row, one, chance, many):
        chain, at = [], one
        for _ in range(many):
            found = deeds(kinds, set(lot), row, at)
            if found:
                chain.append(chance.choice(found))
                at = done_by(at, chain[-1])
        return chain, at

    def test_chains_walked_deed_by_deed(self):
        chance, walked = Random(7), 0
        for kinds, lot, row in deed_cases():
            for one in groupings(len(row))[::4]:
                chain, other = self.walk(kinds, lot, row, one, chance, 4)
                walked += len(chain) > 2
                for end in groupings(len(row))[::5] + [other]:
                    self.assertIs(is_chain(kinds, lot, row, list(one), list(end), chain), end == other)
                self.assertIs(is_chain(kinds, lot, row, list(one), list(one), []), True)
                for at in range(len(chain)):
                    bent = chain[:at] + chain[at + 1:]
                    wanted = self.leads(kinds, lot, row, one, other, bent)
                    self.assertIs(is_chain(kinds, lot, row, list(one), list(other), bent), wanted)
                    turned = chain[:at] + [(("left", "right")[chain[at][0] == "left"],) + chain[at][1:]] + chain[at + 1:]
                    self.assertIs(is_chain(kinds, lot, row, list(one), list(other), turned), False)
        self.assertTrue(walked)

    def leads(self, kinds, lot, row, one, other, chain):
        at = one
        for deed in chain:
            if deed not in deeds(kinds, set(lot), row, at):
                return False
            at = done_by(at, deed)
        return at == other

    def test_any_object(self):
        deed = ("right", 0, 2, 3, 4)
        self.assertIs(is_chain(signs(), SIGN_TRIPLES, ROW, plain(4), HALVES, [deed]), True)
        back = ("left", 0, 2, 3, 4)
        self.assertIs(is_chain(signs(), SIGN_TRIPLES, ROW, plain(4), HALVES, [deed, back, deed]), True)
        for wrong in strange_objects() + [(deed,), [deed, None], [deed, deed], [None], [], {deed: 1}, [[deed]]] + [
            [bent] for bent in wrong_deeds(deed)
        ]:
            self.assertIs(is_chain(signs(), SIGN_TRIPLES, ROW, plain(4), HALVES, wrong), False)


class JoinedTest(unittest.TestCase):
    def test_against_all_that_deeds_lead_to(self):
        for base, row, classes in folds(1, 5):
            kinds, of = base.typed().kinds(), {}
            for at, found in enumerate(classes):
                of.update({grouping: at for grouping in found})
            for one, other in product(groupings(len(row))[::2], groupings(len(row))):
                alike = of[one] == of[other]
                self.assertIs(joined(base, row, list(one), list(other)), alike)
                chain = chain_between(base, row, list(one), list(other))
                if not alike:
                    self.assertIsNone(chain)
                    continue
                self.assertIs(is_chain(kinds, base.triples(), row, list(one), list(other), chain), True)
                self.assertTrue(self.leads(kinds, base.triples(), row, one, other, chain))

    def leads(self, kinds, lot, row, one, other, chain):
        return ChainTest.leads(self, kinds, lot, row, one, other, chain)

    def test_long_rows(self):
        for word in ("right", "left"):
            base = kinds_base(signs(), all_triples(signs()), word)
            for size in (12, 14):
                row = ["p", "n", "a", "p"] * 4
                comb = sorted([(at, size) for at in range(size - 1)])
                self.assertIs(joined(base, row[:size], plain(size), comb), True)
                chain = chain_between(base, row[:size], plain(size), comb)
                self.assertIs(is_chain(signs(), base.triples(), row[:size], plain(size), comb, chain), True)


class HullTest(unittest.TestCase):
    def test_settled_and_least(self):
        for at, kinds in enumerate(small_kinds()):
            for word in ("right", "left"):
                for lot in some_lots(kinds, 10, at):
                    found = hull(kinds, lot, word)
                    self.assertEqual(found, closed(kinds, lot, word))
                    self.assertFalse(missing_triples(kinds, found, word))
                    self.assertIs(is_settled(kinds, found, word), True)

    def test_by_all_lots_of_two_kinds(self):
        for kinds in small_kinds()[:9]:
            triples = all_triples(kinds)
            for word in ("right", "left"):
                settled = [
                    set(lot) for size in range(len(triples) + 1) for lot in combinations(triples, size)
                    if not missing_triples(kinds, lot, word)
                ]
                for lot in some_lots(kinds, 5):
                    found = set(hull(kinds, lot, word))
                    self.assertIn(found, settled)
                    self.assertTrue(all(found <= other for other in settled if other >= set(lot)))

    def test_words(self):
        for wrong in strange_objects() + ["up", None, ["right"], ("left",), "Right"]:
            if wrong != "right":
                with self.assertRaises(InvalidWord) as caught:
                    hull(signs(), [], wrong)
                self.assertIs(caught.exception.value, wrong)


class SideTest(unittest.TestCase):
    def test_by_all_settled_lots_and_both_hulls(self):
        told = {"joined": 0, "apart": 0, "open": 0}
        for typed in small_typings()[::8] + unsettled_typings()[::3]:
            right, kinds = right_triples(typed), typed.kinds()
            if len(right) <= 6 or not missing_triples(kinds, right, "right") + missing_triples(kinds, right, "left"):
                for row in some_rows(kinds, 4, 1, len(right))[2:]:
                    self.check_row(typed, right, row, told)
        self.assertTrue(min(told.values()) > 20, told)

    def check_row(self, typed, right, row, told):
        kinds = typed.kinds()
        joins, apart = [], []
        for word in ("right", "left"):
            for lot in settled_lots(kinds, right, word):
                joins.append(classes_by_deeds(kinds, lot, row))
            apart.append(classes_by_deeds(kinds, closed(kinds, right, word), row))
        for one, other in product(groupings(len(row)), repeat=2):
            wanted = "open"
            if any(one in found and other in found for classes in joins for found in classes):
                wanted = "joined"
            elif not all(any(one in found and other in found for found in classes) for classes in apart):
                wanted = "apart"
            told[wanted] += 1
            self.assertEqual(side(typed, row, list(one), list(other)), wanted)

    def test_all_right_triples_settled(self):
        typed = kinds_typing(signs())
        self.assertEqual(side(typed, ["p", "n"] * 6, plain(12), [(at, 12) for at in range(11)]), "joined")

    def test_more_than_ten_settled_to_one_word_alone(self):
        words = []
        for typed in one_word_typings():
            kinds, right = typed.kinds(), right_triples(typed)
            settled = [word for word in ("right", "left") if not missing_triples(kinds, right, word)]
            self.assertEqual([len(settled), len(right) > 10], [1, True])
            words += settled
            for row in some_rows(kinds, 4, 2, len(right))[2:] + [kinds.names()[:3]]:
                classes = classes_by_deeds(kinds, right, row)
                for one, other in product(groupings(len(row)), repeat=2):
                    wanted = "joined" if any(one in found and other in found for found in classes) else "apart"
                    self.assertEqual(side(typed, row, list(one), list(other)), wanted)
        self.assertEqual([words.count("right") > 2, words.count("left") > 2], [True, True])


def one_word_typings():
    """Typings of more than ten right triples that are settled to one of the two words alone."""
    turned, found = {"p": "q", "q": "p"}, []
    for takes_first in (True, False):
        for names in ("abcd", "bcd", "dcb", "adbc"):
            letters = dict(zip(names, ["s", "t", "u", "v"]))
            holding = {name: [letters[name]] for name in names[:-1]}
            holding[names[-1]] = ["p", "q"]
            kinds = Kinds({(x, y): x if takes_first else y for x in names for y in names})
            made = {(x, y): x if takes_first else y for x in "pqstuv" for y in "pqstuv"}
            operation = Operation({pair: turned.get(value, value) for pair, value in made.items()})
            found.append(Typing(operation, kinds, {name: holding[name] for name in sorted(names)}))
    return found


def settled_lots(kinds, right, word):
    if not missing_triples(kinds, right, word):
        return [right]
    return [
        list(lot) for size in range(len(right) + 1) for lot in combinations(right, size)
        if not missing_triples(kinds, lot, word)
    ]


class ClassTest(unittest.TestCase):
    def test_all_that_are_joined_with_one_are_its_class(self):
        for base, row, classes in folds(1, 5, 3):
            for found in classes:
                self.assertEqual(found, class_by_deeds(base.typed().kinds(), base.triples(), row, found[-1]))
                for other in groupings(len(row)):
                    self.assertIs(joined(base, row, list(found[0]), list(other)), other in found)


if __name__ == "__main__":
    unittest.main()
