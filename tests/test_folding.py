"""Section 6: coarsest types."""

import unittest
from itertools import product

from shiftfolds.classes import class_number, class_size
from shiftfolds.errors import InvalidFolding, InvalidKind, InvalidRow, InvalidTyping
from shiftfolds.folding import (
    all_foldings, apart, coarsest, folded_kinds, folded_triples, folded_typing, is_folding, is_mark, row_folded,
)
from shiftfolds.rights import kinds_base, right_triples
from shiftfolds.shifts import hull
from shiftfolds.typings import Kinds

from tests.folds import SIGN_TRIPLES, all_triples, closed, missing_triples, small_kinds, small_typings, some_lots
from tests.helpers import all_partings, part_of, signs, stop_typing, strange_objects


def twin_kinds():
    """Kinds in which one stands twice: b is another name of a, and d one of c."""
    heads = {"a": "a", "b": "a", "c": "c", "d": "c"}
    return [
        Kinds({(x, y): made[heads[x] + heads[y]] for x in "abcd" for y in "abcd"}) for made in [
            {"aa": "b", "ac": "d", "ca": "d", "cc": "d"}, {"aa": "a", "ac": "c", "ca": "c", "cc": "a"},
            {"aa": "a", "ac": "d", "ca": "a", "cc": "d"},
        ]
    ]


def twin_lots():
    """Lots in which a and b, and c and d, stand for one another; and one in which they do not."""
    found = []
    for lot in [["aac"], ["aca", "ccc"], ["aaa", "aac", "cca"], []]:
        triples = [
            triple for triple in product("abcd", repeat=3)
            if "".join({"b": "a", "d": "c"}.get(kind, kind) for kind in triple) in lot
        ]
        found.append(triples)
    found.append([("a", "c", "a"), ("c", "c", "c")])
    return found


def cases(many=3):
    """Kinds and lots of triples, settled or not."""
    found = []
    for at, kinds in enumerate(small_kinds()):
        for lot in some_lots(kinds, many, at):
            found.append((kinds, lot))
            found.append((kinds, closed(kinds, lot, ("right", "left")[at % 2])))
    for kinds in twin_kinds():
        found.extend((kinds, lot) for lot in twin_lots())
    return found


def is_folding_by_words(kinds, triples, lists):
    """A folding, by ALL partings' pairs and ALL triples."""
    def alike(one, other):
        return part_of(lists, one) == part_of(lists, other)
    names = kinds.names()
    pairs = [(one, other) for one, other in product(names, repeat=2) if alike(one, other)]
    for (a, b), (c, d) in product(pairs, repeat=2):
        if not alike(kinds.put(a, c), kinds.put(b, d)):
            return False
    for triple in all_triples(kinds):
        for place, (one, other) in product(range(3), pairs):
            if triple[place] == one:
                bent = triple[:place] + (other,) + triple[place + 1:]
                if (triple in triples) != (bent in triples):
                    return False
    return True


def foldings_by_words(kinds, triples):
    return sorted(lists for lists in all_partings(kinds.names()) if is_folding_by_words(kinds, triples, lists))


class ExamplesTest(unittest.TestCase):
    def test_signs(self):
        kinds = signs()
        self.assertEqual(coarsest(kinds, SIGN_TRIPLES), [["a"], ["n"], ["p"]])
        self.assertIs(is_mark(kinds, SIGN_TRIPLES, "n", "p", ([], [], 0, ("a", "n"))), True)
        self.assertIs(is_mark(kinds, SIGN_TRIPLES, "a", "p", ([], [], 1, ("p", "p"))), False)
        self.assertIsNone(apart(kinds, SIGN_TRIPLES, "n", "n"))
        self.assertEqual(coarsest(kinds, []), [["a", "n", "p"]])
        self.assertEqual(
            all_foldings(kinds, []),
            [[["a"], ["n"], ["p"]], [["a", "n"], ["p"]], [["a", "n", "p"]], [["a", "p"], ["n"]]],
        )
        self.assertIs(is_folding(kinds, SIGN_TRIPLES, [["a", "n", "p"]]), False)
        lists = [["a", "n"], ["p"]]
        self.assertEqual(
            folded_kinds(kinds, [], lists).table(),
            {("a", "a"): "a", ("a", "p"): "a", ("p", "a"): "a", ("p", "p"): "p"},
        )
        self.assertEqual(folded_triples(kinds, [], lists), [])
        self.assertEqual(row_folded(kinds, [], lists, ["n", "p", "a"]), ["a", "p", "a"])


class FoldingTest(unittest.TestCase):
    def test_against_all_partings(self):
        for kinds, triples in cases():
            wanted = foldings_by_words(kinds, triples)
            self.assertEqual(all_foldings(kinds, triples), wanted)
            for lists in all_partings(kinds.names()):
                self.assertIs(is_folding(kinds, triples, lists), lists in wanted)

    def test_the_coarsest_has_the_fewest_lists_and_holds_all_others(self):
        folded = 0
        for kinds, triples in cases(5):
            found, all_found = coarsest(kinds, triples), all_foldings(kinds, triples)
            self.assertIn(found, all_found)
            folded += 1 < len(found) < len(kinds.names())
            for lists in all_found:
                self.assertTrue(len(lists) > len(found) or lists == found)
                for part in lists:
                    self.assertTrue(set(part) <= set(part_of(found, part[0])))
        self.assertTrue(folded)

    def test_kinds_that_stand_twice(self):
        for kinds in twin_kinds():
            for lot in twin_lots()[:-1]:
                self.assertEqual(part_of(coarsest(kinds, lot), "a")[:2], ["a", "b"])
            self.assertNotIn("b", part_of(coarsest(kinds, twin_lots()[-1]), "a"))

    def test_any_object(self):
        kinds = signs()
        right = [["a", "n"], ["p"]]
        self.assertIs(is_folding(kinds, [], right), True)
        for wrong in strange_objects() + [
            (["a", "n"], ["p"]), [("a", "n"), ["p"]], [["p"], ["a", "n"]], [["n", "a"], ["p"]], [["a", "n"], ["p"], []],
            [[], ["a", "n"], ["p"]], [["a", "n"]], [["a", "n"], ["n", "p"]], [["a", "n"], ["p"], ["p"]], [["a", "n"], "p"],
            [["a", "n"], ["p", "x"]], [["a", "n"], ["p", 1]], [["a", "n"], [["p"]]], [["a", "a", "n"], ["p"]],
            {"a": ["a", "n"], "p": ["p"]}, [["a", "n"], ["p"], None], "anp", [["a"], ["n", "p"]],
        ]:
            self.assertIs(is_folding(kinds, [], wrong), False)
            for call in [folded_kinds, folded_triples, lambda *told: row_folded(*told, None)]:
                with self.assertRaises(InvalidFolding) as caught:
                    call(kinds, [], wrong)
                self.assertIs(caught.exception.value, wrong)


class MarkTest(unittest.TestCase):
    def made_at(self, kinds, kind, ahead, behind, place, rest):
        row = ahead + [kind] + behind
        made = row[0]
        for other in row[1:]:
            made = kinds.put(made, other)
        return tuple(rest[:place]) + (made,) + tuple(rest[place:])

    def is_mark_by_words(self, kinds, triples, one, other, mark):
        ahead, behind, place, rest = mark
        return (self.made_at(kinds, one, ahead, behind, place, rest) in triples) != (
            self.made_at(kinds, other, ahead, behind, place, rest) in triples
        )

    def test_just_kinds_of_unlike_lists_have_one(self):
        outer = 0
        for kinds, triples in cases():
            lists = coarsest(kinds, triples)
            for one, other in product(kinds.names(), repeat=2):
                mark = apart(kinds, triples, one, other)
                if part_of(lists, one) == part_of(lists, other):
                    self.assertIsNone(mark)
                    continue
                self.assertTrue(self.is_mark_by_words(kinds, triples, one, other, mark))
                self.assertIs(is_mark(kinds, triples, one, other, mark), True)
                self.assertIs(is_mark(kinds, triples, other, one, mark), True)
                self.assertIs(is_mark(kinds, triples, one, one, mark), False)
                outer += bool(mark[0] or mark[1])
        self.assertTrue(outer)

    def test_each_part_bent(self):
        for kinds, triples in cases(1)[::3]:
            names = kinds.names()
            for one, other in [(names[0], names[-1]), (names[-1], names[0])]:
                for mark in self.marks(names):
                    wanted = self.is_mark_by_words(kinds, triples, one, other, mark)
                    self.assertIs(is_mark(kinds, triples, one, other, mark), wanted)

    def marks(self, names):
        sides = [[], [names[0]], [names[-1], names[0]], [names[-1]] * 3]
        return [
            (list(ahead), list(behind), place, rest)
            for ahead, behind in product(sides, repeat=2) for place in range(3) for rest in product(names, repeat=2)
        ]

    def test_any_object(self):
        right = ([], [], 0, ("a", "n"))
        self.assertIs(is_mark(signs(), SIGN_TRIPLES, "n", "p", right), True)
        self.assertIs(is_mark(signs(), SIGN_TRIPLES, "n", "p", ([], [], 2, ("n", "a"))), True)
        for wrong in strange_objects() + [
            list(right), right[:3], right + (0,), ((), [], 0, ("a", "n")), ([], (), 0, ("a", "n")), ([], [], 0, ["a", "n"]),
            ([], [], False, ("a", "n")), ([], [], "0", ("a", "n")), ([], [], 3, ("a", "n")), ([], [], -1, ("a", "n")),
            ([], [], -3, ("a", "n")), ([], [], 0, ("a",)), ([], [], 0, ("a", "n", "n")), ([], [], 0, ("a", "x")),
            ([], [], 3, ("n", "a")), ([], [], 9, ("n", "a")), (["x"], [], 0, ("a", "n")), ([], ["x"], 0, ("a", "n")), ([["n"]], [], 0, ("a", "n")), ([], [1], 0, ("a", "n")),
            ("", [], 0, ("a", "n")), ([], [], None, ("a", "n")), ([], [], 0, None), (None, None, 0, ("a", "n")),
        ]:
            self.assertIs(is_mark(signs(), SIGN_TRIPLES, "n", "p", wrong), False)

    def test_a_place_of_true_is_none(self):
        self.assertIs(is_mark(signs(), SIGN_TRIPLES, "n", "p", ([], [], 2, ("n", "a"))), True)
        self.assertIs(is_mark(signs(), [("n", "n", "p")], "n", "p", ([], [], 1, ("n", "p"))), True)
        self.assertIs(is_mark(signs(), [("n", "n", "p")], "n", "p", ([], [], True, ("n", "p"))), False)

    def test_asks_for_kinds_one_by_one(self):
        for wrong in strange_objects():
            if isinstance(wrong, str) and wrong == "a":
                continue
            for call in [
                lambda: apart(signs(), [], wrong, 1), lambda: apart(signs(), [], "a", wrong),
                lambda: is_mark(signs(), [], wrong, 1, None), lambda: is_mark(signs(), [], "a", wrong, None),
            ]:
                with self.assertRaises(InvalidKind) as caught:
                    call()
                self.assertIs(caught.exception.value, wrong)


class FoldedTest(unittest.TestCase):
    def test_kinds_triples_and_rows(self):
        folded = 0
        for kinds, triples in cases():
            for lists in all_foldings(kinds, triples):
                heads = {kind: part[0] for part in lists for kind in part}
                firsts = [part[0] for part in lists]
                folded += len(lists) < len(kinds.names())
                made = folded_kinds(kinds, triples, lists)
                self.assertEqual(made.names(), firsts)
                for one, other in product(kinds.names(), repeat=2):
                    self.assertEqual(made.put(heads[one], heads[other]), heads[kinds.put(one, other)])
                told = folded_triples(kinds, triples, lists)
                self.assertEqual(told, [triple for triple in triples if set(triple) <= set(firsts)])
                self.assertEqual(
                    sorted({tuple(heads[kind] for kind in triple) for triple in triples}), told,
                )
                row = kinds.names() + kinds.names()[::-1]
                self.assertEqual(row_folded(kinds, triples, lists, row), [heads[kind] for kind in row])

    def test_settled_ones_stay_settled_and_classes_stay(self):
        compared = 0
        for kinds, triples in cases():
            for word in ("right", "left"):
                lot = hull(kinds, triples, word)
                lists = coarsest(kinds, lot)
                made, told = folded_kinds(kinds, lot, lists), folded_triples(kinds, lot, lists)
                self.assertFalse(missing_triples(made, told, word))
                if len(lists) == len(kinds.names()):
                    continue
                compared += 1
                row = (kinds.names() * 3)[:5]
                one, other = kinds_base(kinds, lot, word), kinds_base(made, told, word)
                new, plain = row_folded(kinds, lot, lists, row), [(0, 2), (0, 3), (0, 4), (0, 5)]
                self.assertEqual(class_number(one, row), class_number(other, new))
                self.assertEqual(class_size(one, row, plain), class_size(other, new, plain))
        self.assertTrue(compared)

    def test_rows_that_are_none(self):
        for wrong in strange_objects() + [[], ["a", "x"], ("a",), ["a", ["n"]], [None]]:
            with self.assertRaises(InvalidRow) as caught:
                row_folded(signs(), [], [["a", "n"], ["p"]], wrong)
            self.assertIs(caught.exception.value, wrong)

    def test_folded_typing(self):
        folded = 0
        for typed in small_typings():
            right, kinds = right_triples(typed), typed.kinds()
            for lists in foldings_by_words(kinds, right):
                made = folded_typing(typed, lists)
                folded += len(lists) < len(kinds.names())
                self.assertTrue(made.operation() == typed.operation())
                self.assertTrue(made.kinds() == folded_kinds(kinds, right, lists))
                for part in lists:
                    values = {value for kind in part for value in typed.holding()[kind]}
                    self.assertEqual(made.holding()[part[0]], sorted(values))
                self.assertEqual(right_triples(made), folded_triples(kinds, right, lists))
        self.assertTrue(folded)

    def test_folded_typing_asks_for_a_folding_of_the_right_triples(self):
        lists = [["a", "n"], ["p"]]
        self.assertIs(is_folding(signs(), [], lists), True)
        for wrong in strange_objects() + [lists, [["a", "n", "p"]]]:
            with self.assertRaises(InvalidFolding) as caught:
                folded_typing(stop_typing(), wrong)
            self.assertIs(caught.exception.value, wrong)
        self.assertRaises(InvalidTyping, folded_typing, signs(), lists)
        self.assertTrue(folded_typing(stop_typing(), [["a"], ["n"], ["p"]]) == stop_typing())


class SizeTest(unittest.TestCase):
    def test_great_inputs_are_answered(self):
        for letters in ("abcd", "abcdef"):
            kinds = Kinds({(x, y): max(x, y) for x in letters for y in letters})
            lot = closed(kinds, [("a", "b", "d"), ("b", "b", "a")], "right")
            self.assertIn(coarsest(kinds, lot), all_foldings(kinds, lot))
            self.assertEqual(coarsest(kinds, all_triples(kinds)), [list(letters)])


if __name__ == "__main__":
    unittest.main()
