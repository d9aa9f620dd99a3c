"""Section 17: changes."""

import unittest
from itertools import combinations, product
from random import Random

from shiftfolds.changes import (
    breaking_lots, broken_by, changed_by, fate, is_fate, lost_of, rights_changed, typing_behind,
)
from shiftfolds.equals import verdict
from shiftfolds.errors import (
    Apart, InvalidBase, InvalidChange, InvalidChanges, InvalidGrouping, InvalidRow, InvalidTyping, Refused,
)
from shiftfolds.operations import Operation, stopping_sums
from shiftfolds.rights import Base, right_triples
from shiftfolds.shifts import plain
from shiftfolds.typings import Kinds, Typing, kinds_typing

from tests.folds import (
    bent_groupings, class_by_deeds, deeds, done_by, groupings, is_sound, mid_of, small_typings, some_rows,
    typing_of_kinds,
)
from tests.helpers import STOP_NAMES, brackets, signs, stop_typing, strange_folds, strange_objects

HALVES, RIGHT = [(0, 2), (0, 4), (2, 4)], [(0, 4), (1, 4), (2, 4)]
ROW = ["a"] * 4


def few_typing():
    few = Operation({(x, y): "q" if (x, y) == ("p", "p") else "o" for x in "opq" for y in "opq"})
    return Typing(few, Kinds({("a", "a"): "a"}), {"a": ["o", "p", "q"]})


def one_typing():
    return Typing(stopping_sums(STOP_NAMES, 2), Kinds({("p", "p"): "p"}), {"p": ["o", "q", "qq"]})


def fits(table, holding, change):
    names = {name for pair in table for name in pair}
    if change[0] == "do":
        return set(change[1:]) <= names and table[change[1:3]] != change[3]
    kind, value = change[1:]
    if kind not in holding or value not in names:
        return False
    return (value not in holding[kind]) if change[0] == "hold" else value in holding[kind] and len(holding[kind]) > 1


def made_by_words(typed, changes):
    """The operation's table and the holding behind changes, or the first change that does not fit."""
    table, holding = typed.operation().table(), typed.holding()
    for change in changes:
        if not fits(table, holding, change):
            return change
        if change[0] == "do":
            table[change[1:3]] = change[3]
        elif change[0] == "hold":
            holding[change[1]] = sorted(holding[change[1]] + [change[2]])
        else:
            holding[change[1]].remove(change[2])
    return table, holding


def broken_by_words(kinds, table, holding):
    tuples = [
        (a, b, x, y) for a, b in product(kinds.names(), repeat=2) for x in holding[a] for y in holding[b]
        if table[(x, y)] not in holding[kinds.put(a, b)]
    ]
    return min(tuples, default=None)


def rights_by_words(kinds, table, holding):
    operation = Operation(table)
    return [
        (a, b, c) for a, b, c in product(kinds.names(), repeat=3)
        if all(len(set(brackets(operation, *three))) == 1 for three in product(holding[a], holding[b], holding[c]))
    ]


def some_changes(typed, seed, many):
    """Changes that fit one after the other."""
    chance, found = Random(seed), []
    names, kinds = typed.operation().names(), typed.kinds().names()
    for _ in range(many * 9):
        word = chance.choice(["do", "do", "hold", "drop"])
        if word == "do":
            change = (word, chance.choice(names), chance.choice(names), chance.choice(names))
        else:
            change = (word, chance.choice(kinds), chance.choice(names))
        told = made_by_words(typed, found + [change])
        if isinstance(told[1], dict) and len(found) < many:
            found.append(change)
    return found


def value_by_words(table, grouping, inputs):
    values = {(at, at + 1): word for at, word in enumerate(inputs)}
    for first, end in sorted(grouping, key=lambda block: block[1] - block[0]):
        mid = mid_of(grouping, (first, end))
        values[(first, end)] = table[(values[(first, mid)], values[(mid, end)])]
    return values[(0, len(inputs))]


def all_inputs(holding, row):
    return [list(told) for told in product(*[holding[kind] for kind in row])]


def fate_by_words(typed, changes, row, one, other):
    """The word of a fate, and, where values part, the inputs that do so."""
    table, holding = made_by_words(typed, changes)
    kinds = typed.kinds()
    if broken_by_words(kinds, table, holding) is not None:
        return "untyped", []
    if tuple(other) in class_by_deeds(kinds, rights_by_words(kinds, table, holding), row, one):
        return "stands", []
    parting = [
        inputs for inputs in all_inputs(holding, row)
        if value_by_words(table, one, inputs) != value_by_words(table, other, inputs)
    ]
    return ("falls", parting) if parting else ("equal", [])


def some_typings():
    kinds = [Kinds({("a", "a"): "a"}), Kinds({("a", "a"): "a", ("a", "b"): "b", ("b", "a"): "b", ("b", "b"): "b"}), signs()]
    found = [few_typing(), one_typing(), stop_typing()]
    for seed in range(18):
        found.append(typing_of_kinds(kinds[seed % 3], [2 - seed % 2, 1 + seed % 2, 2][:len(kinds[seed % 3].names())], seed))
    return found + small_typings()[::9]


def joined_pairs(typed, row, seed, many=2):
    """Some pairs of groupings of a row that are joined by ALL right triples."""
    chance, found = Random(seed), []
    right = right_triples(typed)
    for _ in range(many):
        one = chance.choice(groupings(len(row)))
        found.append((list(one), list(chance.choice(class_by_deeds(typed.kinds(), right, row, one)))))
    return found


class ExamplesTest(unittest.TestCase):
    def test_few(self):
        typed, turn = few_typing(), [("do", "p", "q", "q")]
        self.assertEqual([rights_changed(typed, turn), broken_by(typed, turn)], [([("a", "a", "a")], []), None])
        self.assertEqual(fate(typed, turn, ROW, plain(4), HALVES), ("equal",))
        self.assertEqual(fate(typed, turn, ROW, plain(4), RIGHT)[0], "falls")
        self.assertIs(is_fate(typed, turn, ROW, plain(4), RIGHT, ("falls", ["p"] * 4)), True)
        self.assertEqual(breaking_lots(typed, turn + [("do", "o", "o", "p")], ROW, plain(4), HALVES), [[0], [1]])

    def test_one(self):
        one = one_typing()
        self.assertEqual(broken_by(one, [("do", "q", "q", "m")]), ("p", "p", "q", "q"))
        self.assertEqual(fate(one, [("do", "q", "q", "m")], ["p", "p"], [(0, 2)], [(0, 2)]), ("untyped", ("p", "p", "q", "q")))
        self.assertEqual(changed_by(one, [("drop", "p", "o")])[1], {"p": ["q", "qq"]})
        base = Base(one, [("p", "p", "p")], "right")
        self.assertEqual([lost_of(base, [("do", "o", "q", "o")]), lost_of(base, [("drop", "p", "o")])], [[("p", "p", "p")], []])


class ChangedTest(unittest.TestCase):
    def test_changes_one_behind_the_other(self):
        words = {"do": 0, "hold": 0, "drop": 0}
        for seed, typed in enumerate(some_typings()):
            for many in range(5):
                changes = some_changes(typed, seed + many, many)
                table, holding = made_by_words(typed, changes)
                operation, told = changed_by(typed, changes)
                self.assertEqual(operation.table(), table)
                self.assertEqual(list(told.items()), sorted(holding.items()))
                self.assertEqual(broken_by(typed, changes), broken_by_words(typed.kinds(), table, holding))
                for change in changes:
                    words[change[0]] += 1
        self.assertTrue(min(words.values()) > 5, words)

    def test_each_kind_that_fits_and_does_not(self):
        typed = stop_typing()
        fitting = [("do", "q", "q", "o"), ("hold", "p", "m"), ("hold", "n", "qq"), ("drop", "p", "qq"), ("drop", "a", "o")]
        for change in fitting:
            self.assertEqual(changed_by(typed, [change])[0].table(), made_by_words(typed, [change])[0])
        for change in [
            ("do", "q", "q", "qq"), ("do", "q", "x", "o"), ("do", "x", "q", "o"), ("do", "q", "q", "x"), ("hold", "p", "q"),
            ("hold", "x", "m"), ("hold", "p", "x"), ("drop", "n", "q"), ("drop", "x", "m"), ("drop", "p", "x"), ("do", "p", "p", "p"),
        ]:
            for ahead in [[], fitting[1:2], fitting[1:]]:
                for behind in [[], fitting, [("do", "x", "x", "x")]]:
                    changes = ahead + [change] + behind
                    self.assertIs(made_by_words(typed, changes), change)
                    for call in [changed_by, broken_by, typing_behind, rights_changed]:
                        with self.assertRaises(InvalidChange) as caught:
                            call(typed, changes)
                        self.assertIs(caught.exception.value, change)
                    for call in [
                        lambda: fate(typed, changes, None, None, None), lambda: is_fate(typed, changes, None, None, None, None),
                        lambda: lost_of(Base(typed, [], "right"), changes),
                    ]:
                        with self.assertRaises(InvalidChange) as caught:
                            call()
                        self.assertIs(caught.exception.value, change)
        # what does not fit at first may fit later, and the other way about
        self.assertEqual(changed_by(typed, [("do", "q", "q", "o"), ("do", "q", "q", "qq")])[0].table(), typed.operation().table())
        self.assertEqual(changed_by(typed, [("hold", "p", "m"), ("drop", "p", "m")])[1], typed.holding())
        one = [("drop", "p", "o"), ("drop", "p", "q"), ("drop", "p", "qq")]
        with self.assertRaises(InvalidChange) as caught:
            changed_by(typed, one)
        self.assertIs(caught.exception.value, one[2])
        self.assertEqual(changed_by(typed, one[:2] + [("hold", "p", "o")])[1]["p"], ["o", "qq"])

    def test_no_changes(self):
        typed = stop_typing()
        operation, holding = changed_by(typed, [])
        self.assertTrue(operation == typed.operation() and holding == typed.holding())
        self.assertTrue(typing_behind(typed, []) == typed)
        self.assertEqual([broken_by(typed, []), rights_changed(typed, []), lost_of(Base(typed, [], "left"), [])], [None, ([], []), []])

    def test_the_first_break_in_order(self):
        typed, several = stop_typing(), 0
        for seed in range(60):
            changes = some_changes(typed, seed, 3)
            table, holding = made_by_words(typed, changes)
            told = broken_by(typed, changes)
            self.assertEqual(told, broken_by_words(typed.kinds(), table, holding))
            if told is None:
                self.assertTrue(typing_behind(typed, changes) == Typing(Operation(table), typed.kinds(), holding))
                continue
            several += 1
            for call in [typing_behind, rights_changed]:
                with self.assertRaises(Refused) as caught:
                    call(typed, changes)
                self.assertIs(caught.exception.value, changes)
            with self.assertRaises(Refused) as caught:
                lost_of(Base(typed, [], "right"), changes)
            self.assertIs(caught.exception.value, changes)
        self.assertTrue(several > 10)

    def test_triples_right_ahead_and_behind(self):
        lost, won = 0, 0
        for seed, typed in enumerate(some_typings() * 4):
            for many in (1, 2, 3, 4):
                changes = some_changes(typed, 7 * seed + many, many)
                table, holding = made_by_words(typed, changes)
                if not is_sound(Operation(table), typed.kinds(), holding):
                    continue
                ahead = rights_by_words(typed.kinds(), typed.operation().table(), typed.holding())
                behind = rights_by_words(typed.kinds(), table, holding)
                wanted = ([one for one in ahead if one not in behind], [one for one in behind if one not in ahead])
                self.assertEqual(rights_changed(typed, changes), wanted)
                self.assertEqual(right_triples(typing_behind(typed, changes)), behind)
                lost += bool(wanted[0])
                won += bool(wanted[1])
                for word in ("right", "left"):
                    base = Base(typed, [], word)
                    self.assertEqual(lost_of(base, changes), [])
                    if settled(typed, ahead, word):
                        self.assertEqual(lost_of(Base(typed, ahead, word), changes), wanted[0])
        self.assertTrue(lost > 10 and won > 10, (lost, won))


def settled(typed, lot, word):
    put, known = typed.kinds().put, set(lot)
    for a, b, c, d in product(typed.kinds().names(), repeat=4):
        ahead, behind, middle = {(a, b, c), (put(a, b), c, d)}, {(b, c, d), (a, b, put(c, d))}, {(a, put(b, c), d)}
        asking, asked = (ahead, behind | middle) if word == "right" else (behind, ahead | middle)
        if asking <= known and not asked <= known:
            return False
    return True


class FateTest(unittest.TestCase):
    def test_by_all_inputs_and_by_walks(self):
        words = {"untyped": 0, "stands": 0, "equal": 0, "falls": 0}
        for seed, typed in enumerate(some_typings() * 2):
            for row in some_rows(typed.kinds(), 5, 1, seed)[2:]:
                changes = some_changes(typed, seed + len(row), 1 + seed % 3)
                if len(all_inputs(typed.holding(), row)) > 300:
                    continue
                for one, other in joined_pairs(typed, row, seed):
                    word, parting = fate_by_words(typed, changes, row, one, other)
                    told = fate(typed, changes, row, one, other)
                    words[word] += 1
                    self.assertEqual(told[0], word)
                    self.check(typed, changes, row, one, other, told, parting)
        for first, second, made in product("opq", repeat=3):
            changes = [("do", first, second, made)]
            if isinstance(made_by_words(few_typing(), changes)[1], dict):
                for one, other in [(HALVES, plain(4)), (RIGHT, plain(4)), (HALVES, RIGHT), ([(0, 3), (0, 4), (1, 3)], HALVES)]:
                    word, parting = fate_by_words(few_typing(), changes, ROW, one, other)
                    told = fate(few_typing(), changes, ROW, one, other)
                    words[word] += 1
                    self.assertEqual(told[0], word)
                    self.check(few_typing(), changes, ROW, one, other, told, parting)
        self.assertTrue(min(words.values()) > 5, words)

    def check(self, typed, changes, row, one, other, told, parting):
        kinds = typed.kinds()
        table, holding = made_by_words(typed, changes)
        wrong = [None, told[0], list(told), told + (None,), told[:-1], ("untyped", None), ("stands", None), ("falls", None), (told,)]
        wrong += [word for word in [("equal",), ("stands", []), ("falls", []), ("untyped",)] if word != told]
        self.assertIs(is_fate(typed, changes, row, one, other, told), True)
        if told[0] == "untyped":
            self.assertEqual(told, ("untyped", broken_by_words(kinds, table, holding)))
            wrong += [("untyped", told[1][::-1] + ("x",)), ("untyped", list(told[1]))]
        elif told[0] == "stands":
            self.assertTrue(is_walk(kinds, rights_by_words(kinds, table, holding), row, one, other, told[1]))
            wrong += [("stands", tuple(told[1])), ("stands", told[1] + [None]), ("equal",), ("falls", all_inputs(holding, row)[0])]
        elif told[0] == "falls":
            self.assertIn(told[1], parting)
            for inputs in all_inputs(holding, row):
                self.assertIs(is_fate(typed, changes, row, one, other, ("falls", inputs)), inputs in parting)
            wrong += [("falls", tuple(told[1])), ("falls", told[1] + told[1][:1]), ("falls", told[1][1:]), ("stands", told[1])]
        for value in wrong:
            if value != told:
                self.assertIs(is_fate(typed, changes, row, one, other, value), False, value)

    def test_any_chain_and_any_object(self):
        typed = stop_typing()
        row, changes = ["p", "p", "n", "p"], [("drop", "a", "o"), ("hold", "a", "o")]
        told = fate(typed, changes, row, plain(4), HALVES)
        self.assertEqual(told, ("stands", [("right", 0, 2, 3, 4)]))
        there = [("right", 0, 2, 3, 4), ("left", 0, 2, 3, 4), ("right", 0, 2, 3, 4)]
        self.assertIs(is_fate(typed, changes, row, plain(4), HALVES, ("stands", there)), True)
        self.assertIs(is_fate(typed, changes, row, plain(4), HALVES, ("stands", there[:2])), False)
        self.assertEqual(fate(typed, [], row, HALVES, HALVES), ("stands", []))
        for wrong in strange_objects() + strange_folds() + [
            ("stands", [("right", False, 2, 3, 4)]), ("stands", [["right", 0, 2, 3, 4]]), ("stands", []), ["stands", there[:1]], ("stands",),
            ("Stands", there[:1]), (["stands"], there[:1]), ("stands", there[:1], 1), (True, there[:1]),
        ]:
            self.assertIs(is_fate(typed, changes, row, plain(4), HALVES, wrong), False)
            self.assertIs(is_fate(few_typing(), [("do", "p", "q", "q")], ROW, plain(4), RIGHT, wrong), False)
        broken = [("do", "q", "q", "m")]
        self.assertIs(is_fate(one_typing(), broken, ["p"], [], [], ("untyped", ("p", "p", "q", "q"))), True)
        self.assertIs(is_fate(one_typing(), broken, ["p"], [], [], ("untyped", ("p", "p", "qq", "q"))), False)

    def test_it_may_fall_by_types_where_no_value_shows_it(self):
        typed, turn = few_typing(), [("do", "p", "q", "q")]
        self.assertEqual(verdict(typing_behind(typed, turn), ROW, plain(4), HALVES), "equal")
        self.assertIs(is_fate(typed, turn, ROW, plain(4), HALVES, ("equal",)), True)
        self.assertIs(is_fate(typed, turn, ROW, plain(4), HALVES, ("stands", [("right", 0, 2, 3, 4)])), False)
        self.assertEqual(fate(typed, turn, ["a"], [], []), ("stands", []))

    def test_groupings_that_are_not_joined(self):
        typed, row = stop_typing(), ["p", "p", "n", "p"]
        for changes in [[], [("drop", "a", "o")], [("do", "q", "q", "m")]]:
            for call in [fate, breaking_lots, lambda *told: is_fate(*told, None)]:
                with self.assertRaises(Apart) as caught:
                    call(typed, changes, row, plain(4), RIGHT)
                self.assertIs(type(caught.exception), Apart)
                self.assertEqual(caught.exception.value, RIGHT)
                other = list(RIGHT)
                with self.assertRaises(Apart) as caught:
                    call(typed, changes, row, plain(4), other)
                self.assertIs(caught.exception.value, other)


def is_walk(kinds, triples, row, one, other, chain):
    at = tuple(one)
    for deed in chain:
        if deed not in deeds(kinds, set(triples), row, at):
            return False
        at = done_by(at, deed)
    return at == tuple(other)


def lots_by_words(typed, changes, row, one, other):
    """The lots behind which two groupings do not stand, but do behind each lot within, by ALL lots."""
    stands = {}
    for many in range(len(changes) + 1):
        for lot in combinations(range(len(changes)), many):
            some = [changes[at] for at in lot]
            if isinstance(made_by_words(typed, some)[1], dict):
                stands[lot] = fate_by_words(typed, some, row, one, other)[0] == "stands"
    return sorted(
        list(lot) for lot in stands
        if not stands[lot] and all(stands[less] for less in stands if less != lot and set(less) <= set(lot))
    )


class LotsTest(unittest.TestCase):
    def test_by_all_lots(self):
        several, unfit = 0, 0
        for seed, typed in enumerate(some_typings() * 3):
            chance = Random(seed)
            changes = some_changes(typed, seed, 2) + some_changes(typed, seed + 1, 2)
            chance.shuffle(changes)
            for row in some_rows(typed.kinds(), 4, 1, seed)[-2:]:
                if len(all_inputs(typed.holding(), row)) > 100:
                    continue
                for one, other in joined_pairs(typed, row, seed, 1):
                    told = breaking_lots(typed, changes, row, one, other)
                    self.assertEqual(told, lots_by_words(typed, changes, row, one, other))
                    several += len(told) > 1 or any(len(lot) > 1 for lot in told)
                    unfit += not isinstance(made_by_words(typed, changes)[1], dict)
        self.assertTrue(several > 10 and unfit > 3, (several, unfit))

    def test_by_hand(self):
        typed = one_typing()
        three, right = [(0, 2), (0, 3)], [(0, 3), (1, 3)]
        # the first two fit one after the other alone, and do no harm together
        changes = [("do", "o", "q", "o"), ("do", "o", "q", "q"), ("drop", "p", "qq"), ("do", "q", "q", "m")]
        self.assertEqual(breaking_lots(typed, changes, ["p"] * 3, three, right), lots_by_words(typed, changes, ["p"] * 3, three, right))
        self.assertEqual(breaking_lots(typed, changes, ["p"] * 3, three, right), [[0], [2], [3]])
        self.assertEqual(breaking_lots(typed, [("do", "x", "x", "x")], ["p"], [], []), [])
        self.assertEqual(breaking_lots(typed, [], ["p"] * 3, three, right), [])
        # neither of two values is harmful alone to two things: one thing never falls but by types
        self.assertEqual(breaking_lots(typed, [("do", "q", "q", "m")], ["p"], [], []), [[0]])
        both = [("drop", "p", "q"), ("hold", "p", "q"), ("drop", "p", "qq")]
        self.assertEqual(breaking_lots(typed, both, ["p"], [], []), lots_by_words(typed, both, ["p"], [], []))


class ArgumentsTest(unittest.TestCase):
    def calls(self):
        return [
            changed_by, broken_by, typing_behind, rights_changed, lambda *told: fate(*told, None, None, None),
            lambda *told: is_fate(*told, None, None, None, None), lambda *told: breaking_lots(*told, None, None, None),
        ]

    def test_changes_by_their_form(self):
        right = ("do", "q", "q", "o")
        wrong = strange_objects() + strange_folds() + [
            right, (right,), [list(right)], [right, None], [right[:3]], [right + ("o",)], [("do",)], [("Do", "q", "q", "o")], [()],
            [("hold", "p", "q", "q")], [("drop", "p")], [("keep", "p", "q")], [("do", "q", "q", "Q")], [("do", "q", "q", 1)],
            [("hold", "p", ["q"])], [("hold", ("p",), "q")], [("drop", "", "q")], [("drop", "p", "abcdefghi")], {0: right}, [{"do": "q"}],
            [(["do"], "q", "q", "o")], [("do", "q", "q", True)], [(True, "p", "q")], ["do q q o"], [("hold", "p", "q ")],
        ]
        for changes in wrong:
            if repr(changes) == "[]":
                continue
            for call in self.calls():
                with self.assertRaises(InvalidChanges, msg=changes) as caught:
                    call(stop_typing(), changes)
                self.assertIs(caught.exception.value, changes)
            with self.assertRaises(InvalidChanges) as caught:
                lost_of(Base(stop_typing(), [], "right"), changes)
            self.assertIs(caught.exception.value, changes)

    def test_typings_and_bases_that_are_none(self):
        for wrong in strange_objects() + [None, Base(stop_typing(), [], "right")]:
            if not isinstance(wrong, Typing):
                for call in self.calls():
                    with self.assertRaises(InvalidTyping) as caught:
                        call(wrong, None)
                    self.assertIs(caught.exception.value, wrong)
            if not isinstance(wrong, Base):
                with self.assertRaises(InvalidBase) as caught:
                    lost_of(wrong, None)
                self.assertIs(caught.exception.value, wrong)

    def test_rows_and_groupings_in_their_order(self):
        typed, changes = stop_typing(), [("drop", "a", "o")]
        for call in [fate, breaking_lots, lambda *told: is_fate(*told, None)]:
            for row in [None, [], ["x"], ("p",), "p", ["p", ["p"]], {"p": 1}]:
                with self.assertRaises(InvalidRow) as caught:
                    call(typed, changes, row, None, None)
                self.assertIs(caught.exception.value, row)
            for wrong in bent_groupings(HALVES) + [[], plain(3), plain(5)]:
                for one, other in [(wrong, None), (plain(4), wrong), (wrong, RIGHT)]:
                    with self.assertRaises(InvalidGrouping) as caught:
                        call(typed, changes, ["p", "p", "n", "p"], one, other)
                    self.assertIs(caught.exception.value, wrong)

    def test_a_change_that_does_not_fit_comes_ahead_of_a_row(self):
        unfit = ("do", "q", "q", "qq")
        with self.assertRaises(InvalidChange) as caught:
            fate(stop_typing(), [unfit], None, None, None)
        self.assertIs(caught.exception.value, unfit)
        with self.assertRaises(InvalidRow):
            breaking_lots(stop_typing(), [unfit], None, None, None)

    def test_what_is_passed_and_returned_may_be_changed(self):
        typed, changes = stop_typing(), [("drop", "a", "o"), ("do", "q", "q", "o")]
        wanted = changed_by(stop_typing(), list(changes))
        operation, holding = changed_by(typed, changes)
        holding["p"].clear()
        operation.table().clear()
        changes.append(None)
        changes.pop()
        self.assertEqual(changes, [("drop", "a", "o"), ("do", "q", "q", "o")])
        self.assertTrue(changed_by(typed, changes)[0] == wanted[0] and changed_by(typed, changes)[1] == wanted[1])
        told = fate(few_typing(), [("do", "p", "q", "q")], ROW, plain(4), RIGHT)
        told[1].clear()
        self.assertEqual(len(fate(few_typing(), [("do", "p", "q", "q")], ROW, plain(4), RIGHT)[1]), 4)


class SizeTest(unittest.TestCase):
    def test_great_inputs_are_answered(self):
        names = "abcdefghi"
        operation = Operation({(x, y): max(x, y) for x in names for y in names})
        typed = Typing(operation, Kinds({(x, y): max(x, y) for x in "klmn" for y in "klmn"}), {
            "k": list("abc"), "l": list("abcdef"), "m": list("abcdefg"), "n": list("abcdefghi"),
        })
        changes = [("do", "a", "b", "c"), ("drop", "m", "c"), ("hold", "m", "h"), ("do", "i", "i", "h")]
        row, right = ["k"] * 6, [(at, 6) for at in range(5)]
        for some in [changes[:1], changes, changes[2:]]:
            word, parting = fate_by_words(typed, some, row, plain(6), right)
            told = fate(typed, some, row, plain(6), right)
            self.assertEqual(told[0], word)
            self.assertIs(is_fate(typed, some, row, plain(6), right, told), True)
            self.assertTrue(word != "falls" or told[1] in parting)
        self.assertEqual(breaking_lots(typed, changes, row, plain(6), right), [[0], [1]])
        ahead, behind = [rights_by_words(typed.kinds(), *made_by_words(typed, some)) for some in ([], changes[:1])]
        self.assertEqual(rights_changed(typed, changes[:1]), ([one for one in ahead if one not in behind], []))
        # somewhat beyond the limits
        self.assertTrue(fate(kinds_typing(signs()), [], ["p"] * 7, plain(7), plain(7)) == ("stands", []))
        five = changes + [("drop", "n", "a")]
        self.assertEqual(breaking_lots(typed, five, row, plain(6), plain(6)), lots_by_types(typed, five))


def lots_by_types(typed, changes):
    """The least lots that break the types: a grouping stands beside itself wherever these hold."""
    found = []
    for many in range(1, len(changes) + 1):
        for lot in combinations(range(len(changes)), many):
            told = made_by_words(typed, [changes[at] for at in lot])
            if isinstance(told[1], dict) and broken_by_words(typed.kinds(), *told) is not None:
                if not any(set(less) <= set(lot) for less in found):
                    found.append(list(lot))
    return sorted(found)


if __name__ == "__main__":
    unittest.main()
