"""Section 20: texts."""

import unittest

from shiftfolds.errors import InvalidBase, InvalidChange, InvalidOperation, InvalidText, InvalidTyping
from shiftfolds.operations import Operation
from shiftfolds.papers import (
    base_text, change_text, operation_text, read_base, read_change, read_operation, read_typing, typing_text,
)
from shiftfolds.rights import Base
from shiftfolds.typings import Kinds, Typing, kinds_typing

from tests.folds import SIGN_TRIPLES, is_associative, is_sound, small_kinds, small_typings, some_bases, triple_rules
from tests.helpers import signs, small_operations, stop, stop_typing, strange_folds, strange_objects
from tests.programs import bent_texts, two_program
from tests.test_changes import rights_by_words

LETTERS = set("abcdefghijklmnopqrstuvwxyz")


def one_typing():
    return Typing(Operation({("z", "z"): "z"}), Kinds({("k", "k"): "k"}), {"k": ["z"]})


def word_typing():
    """Kinds and values named like the words that stand between the parts of a text."""
    names = ["holding", "kinds", "left", "right"]
    kinds = Kinds({(x, y): max(x, y) for x in names for y in names})
    return kinds_typing(kinds)


def is_word(piece):
    return 1 <= len(piece) <= 8 and set(piece) <= LETTERS


def table_of(lines):
    """The table that lines tell, None if they tell none, by the words of [119]."""
    rows = [line.split(" ") for line in lines]
    if not rows or not all(len(row) == 4 and row[2] == "=" and all(is_word(row[at]) for at in (0, 1, 3)) for row in rows):
        return None
    names = sorted({row[0] for row in rows})
    if [(row[0], row[1]) for row in rows] != [(x, y) for x in names for y in names] or not {row[3] for row in rows} <= set(names):
        return None
    return {(row[0], row[1]): row[3] for row in rows}


def typing_of(lines):
    """The tuple of the tables and the holding that lines tell, None if they tell no typing."""
    if lines.count("kinds") != 1 or lines.count("holding") != 1:
        return None
    middle, last = lines.index("kinds"), lines.index("holding")
    table, put = table_of(lines[:middle]), table_of(lines[middle + 1:last])
    rows = [line.split(" ") for line in lines[last + 1:]]
    if table is None or put is None or not is_associative(put) or [row[0] for row in rows] != sorted({x for x, _ in put}):
        return None
    holding = {row[0]: row[1:] for row in rows}
    values = {x for x, _ in table}
    if not all(held and held == sorted(set(held)) and set(held) <= values for held in holding.values()):
        return None
    return (table, put, holding) if is_sound(Operation(table), Kinds(put), holding) else None


def base_of(lines):
    """The tuple of a typing's parts, triples and a word that lines tell, None if they tell no base."""
    words = [line for line in lines if line in ("right", "left")]
    if len(words) != 1:
        return None
    at = lines.index(words[0])
    told, triples = typing_of(lines[:at]), [tuple(line.split(" ")) for line in lines[at + 1:]]
    if told is None or triples != sorted(set(triples)):
        return None
    table, put, holding = told
    if not set(triples) <= set(rights_by_words(Kinds(put), table, holding)):
        return None
    known = set(triples)
    for _, asking, asked in triple_rules(Kinds(put), words[0]):
        if known.issuperset(asking) and not known.issuperset(asked):
            return None
    return told, triples, words[0]


class ExamplesTest(unittest.TestCase):
    def test_one(self):
        one = one_typing()
        self.assertEqual(operation_text(one.operation()), "z z = z")
        self.assertEqual(typing_text(one), "z z = z\nkinds\nk k = k\nholding\nk z")
        self.assertEqual(base_text(Base(one, [("k", "k", "k")], "left")), "z z = z\nkinds\nk k = k\nholding\nk z\nleft\nk k k")
        self.assertTrue(read_operation("z z = z") == one.operation() and read_typing(typing_text(one)) == one)
        self.assertEqual(read_base(base_text(Base(one, [], "right"))).word(), "right")
        self.assertEqual([change_text(("do", "a", "b", "a")), read_change("drop k z")], ["do a b a", ("drop", "k", "z")])


class ThereAndBackTest(unittest.TestCase):
    def test_operations(self):
        for operation in small_operations() + [stop(), word_typing().operation()]:
            table, text = operation.table(), operation_text(operation)
            self.assertEqual(text.split("\n"), [f"{x} {y} = {table[(x, y)]}" for x, y in sorted(table)])
            self.assertTrue(read_operation(text) == operation)

    def test_typings(self):
        for typed in small_typings() + [one_typing(), stop_typing(), word_typing()] + [kinds_typing(kinds) for kinds in small_kinds()]:
            text, holding, table = typing_text(typed), typed.holding(), typed.kinds().table()
            wanted = operation_text(typed.operation()).split("\n") + ["kinds"] + [f"{x} {y} = {table[(x, y)]}" for x, y in sorted(table)]
            wanted += ["holding"] + [" ".join([kind] + holding[kind]) for kind in sorted(holding)]
            self.assertEqual(text.split("\n"), wanted)
            self.assertTrue(read_typing(text) == typed)

    def test_bases(self):
        every = [Base(word_typing(), [("left", "right", "left"), ("right", "left", "right")][at:at + 1], "right") for at in (0, 1)]
        for base in some_bases() + every:
            text = base_text(base)
            wanted = typing_text(base.typed()).split("\n") + [base.word()] + [" ".join(triple) for triple in base.triples()]
            self.assertEqual(text.split("\n"), wanted)
            self.assertTrue(read_base(text) == base)

    def test_changes(self):
        for change in [("do", "a", "b", "c"), ("hold", "k", "z"), ("drop", "abcdefgh", "do"), ("do", "do", "hold", "drop")]:
            self.assertEqual(change_text(change), " ".join(change))
            self.assertEqual(read_change(text=change_text(change=change)), change)


class BentTest(unittest.TestCase):
    def check(self, text, read, write, holds, told):
        for bent in bent_texts(text):
            if holds(bent):
                self.assertEqual(write(read(bent)), bent)
                told[True] += 1
                continue
            with self.assertRaises(InvalidText, msg=bent) as caught:
                read(bent)
            self.assertIs(caught.exception.value, bent)
            told[False] += 1

    def test_operations(self):
        told = {True: 0, False: 0}
        small = Operation({(x, y): "a" for x in ["a", "ax"] for y in ["a", "ax"]})
        for operation in [small, Operation({("z", "z"): "z"}), stop()]:
            self.check(operation_text(operation), read_operation, operation_text, lambda text: table_of(text.split("\n")) is not None, told)
        self.assertTrue(min(told.values()) > 3, told)

    def test_typings(self):
        told = {True: 0, False: 0}
        two = Typing(Operation({(x, y): "a" for x in ["a", "x"] for y in ["a", "x"]}), Kinds({("k", "k"): "k"}), {"k": ["a"]})
        for typed in [one_typing(), two, kinds_typing(small_kinds()[3])]:
            self.check(typing_text(typed), read_typing, typing_text, lambda text: typing_of(text.split("\n")) is not None, told)
        self.assertTrue(min(told.values()) > 3, told)

    def test_bases(self):
        told = {True: 0, False: 0}
        for base in [Base(one_typing(), [("k", "k", "k")], "left"), Base(word_typing(), [("left", "left", "left")], "right")]:
            self.check(base_text(base), read_base, base_text, lambda text: base_of(text.split("\n")) is not None, told)
        self.assertTrue(min(told.values()) > 3, told)

    def test_bases_of_the_signs_by_lines(self):
        text = base_text(Base(stop_typing(), SIGN_TRIPLES, "right"))
        lines = text.split("\n")
        for at in range(len(lines)):
            for bent in [lines[:at] + lines[at + 1:], lines[:at] + [lines[at]] + lines[at:], lines[:at] + lines[at + 1:] + [lines[at]]]:
                if bent != lines and base_of(bent) is None:
                    self.assertRaises(InvalidText, read_base, "\n".join(bent))
        left = "\n".join(line if line != "right" else "left" for line in lines)
        self.assertEqual(read_base(left).word(), "left")
        for wrong in ["p p n", "a a a", "p n n"]:
            told = lines[:lines.index("right") + 1] + sorted(lines[lines.index("right") + 1:] + [wrong])
            with self.assertRaises(InvalidText) as caught:
                read_base("\n".join(told))
            self.assertEqual(caught.exception.value, "\n".join(told))
        # (p, p, n) and (p, n, p) ask for others that are missing
        alone = base_text(Base(kinds_typing(signs()), [("p", "p", "p")], "right")).split("\n")
        told = "\n".join(alone[:-1] + ["p n p", "p p n", "p p p"])
        self.assertIsNone(base_of(told.split("\n")))
        self.assertRaises(InvalidText, read_base, told)

    def test_changes(self):
        told = {True: 0, False: 0}
        for text in ["do a b c", "hold k z", "drop kinds zz"]:
            self.check(text, read_change, change_text, self.is_change, told)
        self.assertTrue(min(told.values()) > 20, told)

    def is_change(self, text):
        pieces = text.split(" ")
        return pieces[0] in ("do", "hold", "drop") and len(pieces) == (4 if pieces[0] == "do" else 3) and all(map(is_word, pieces))

    def test_any_object(self):
        operation, typed, base = operation_text(stop()), typing_text(stop_typing()), base_text(Base(stop_typing(), [], "right"))
        texts = {read_operation: operation, read_typing: typed, read_base: base, read_change: "do a b c"}
        for read in texts:
            wrong = [text for other, text in texts.items() if other is not read] + strange_objects() + strange_folds() + [
                texts[read] + "\n", "\n" + texts[read], [texts[read]], (texts[read],), texts[read] + " ", texts[read] + "\r", None, two_program(),
                texts[read].replace(" ", "  ", 1), texts[read].replace(" ", "\t", 1), texts[read].upper(), texts[read].split("\n"),
            ]
            for text in wrong:
                with self.assertRaises(InvalidText, msg=text) as caught:
                    read(text)
                self.assertIs(caught.exception.value, text)


class ArgumentsTest(unittest.TestCase):
    def test_what_is_none(self):
        for wrong in strange_objects() + [None, two_program(), "z z = z", signs()]:
            for write, right, error in [
                (operation_text, Operation, InvalidOperation), (typing_text, Typing, InvalidTyping), (base_text, Base, InvalidBase),
            ]:
                if not isinstance(wrong, right):
                    with self.assertRaises(error) as caught:
                        write(wrong)
                    self.assertIs(caught.exception.value, wrong)

    def test_changes_by_their_form(self):
        right = ("do", "a", "b", "c")
        wrong = strange_objects() + strange_folds() + [
            list(right), right[:3], right + ("d",), ("Do", "a", "b", "c"), ("hold", "k"), ("drop", "k", "z", "z"), ("do", "a", "b", 1), (),
            ("hold", "k", ["z"]), ("hold", "k", "Z"), ("drop", "", "z"), ("drop", "k", "abcdefghi"), [right], "do a b c", (["do"], "a", "b", "c"),
            ("do",), ("keep", "k", "z"), ("hold", "k", None), (True, "k", "z"), ("hold", ("k",), "z"),
        ]
        for change in wrong:
            with self.assertRaises(InvalidChange) as caught:
                change_text(change)
            self.assertIs(caught.exception.value, change)


class SizeTest(unittest.TestCase):
    def test_great_texts_are_answered(self):
        names = ["abcdefg" + letter for letter in "abcdefghi"]
        operation = Operation({(x, y): max(x, y) for x in names for y in names})
        kinds = Kinds({(x, y): max(x, y) for x in "klmn" for y in "klmn"})
        typed = Typing(operation, kinds, {kind: names[at:] for at, kind in enumerate("klmn")})
        base = Base(typed, [(x, y, z) for x in "klmn" for y in "klmn" for z in "klmn"], "left")
        self.assertEqual(len(base_text(base).split("\n")), 81 + 1 + 16 + 1 + 4 + 1 + 64)
        self.assertTrue(read_base(base_text(base)) == base)
        many = ["v" + x + y for x in "abcd" for y in "abcdefgh"]
        great = Operation({(x, y): min(x, y) for x in many for y in many})
        self.assertTrue(read_operation(operation_text(great)) == great)


if __name__ == "__main__":
    unittest.main()
