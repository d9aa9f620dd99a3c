"""Section 19: scripts."""

import unittest
from random import Random

from shiftfolds.errors import FoldError, InvalidBase, InvalidScript, InvalidText, InvalidWorks
from shiftfolds.operations import Operation
from shiftfolds.programs import Program, plain_plan, program_text
from shiftfolds.rights import Base, kinds_base
from shiftfolds.scripts import end_of, play, read_script, script_text, shortened
from shiftfolds.typings import Kinds, Typing
from shiftfolds.works import Works

from tests.folds import all_triples
from tests.helpers import signs, snapshot, strange_folds, strange_objects
from tests.programs import INPUTS, bent_texts, long_program, sign_base, two_program
from tests.test_prices import some_prices
from tests.test_works import PRICES, all_told, make, random_command

HALVES = [(0, 2), (0, 4), (2, 4)]


def most_base():
    most = Operation({("o", "o"): "o", ("o", "q"): "q", ("q", "o"): "q", ("q", "q"): "q"})
    return Base(Typing(most, Kinds({("p", "p"): "p"}), {"p": ["o", "q"]}), [("p", "p", "p")], "right")


def most_program(base=None):
    return Program(base or most_base(), [("input", name, "p") for name in "xyz"] + [("fold", "t", ["x", "y", "z"])])


def day():
    return [
        ("put", most_program()), ("give", 0, "x", "q"), ("give", 0, "y", "o"), ("give", 0, "z", "o"), ("value_there", 0, "t"),
        ("try", [("replan", 0, {"t": [(0, 3), (1, 3)]})]), ("drop", 0, "t"),
    ]


def long_day():
    """A script with each command."""
    return [
        ("put", two_program()), ("give", 0, "x", "q"), ("drop", 0, "x"), ("undo",), ("redo",), ("known", 0), ("value_there", 0, "z"),
        ("replan", 0, {"t": [(0, 2), (0, 3)], "r": [(0, 2)]}), ("cheapen", 0, dict(PRICES)), ("hasten", 0), ("flatten", 0),
        ("try", [("put", long_program()), ("try", []), ("take", 0), ("try", [("try", [("undo",)])])]), ("trim", 0), ("merge", 0), ("take", 0),
    ]


def played_by_words(works, script):
    """What is said, command by command, by the methods of their names."""
    said = []
    for command in script:
        word = command[0]
        if word == "try":
            with works.trial():
                said.append(("tried", played_by_words(works, command[1])))
            continue
        try:
            told = getattr(works, word)(*command[1:])
        except FoldError as error:
            said.append(("refused", type(error).__name__))
            continue
        if word in ("give", "replan", "cheapen", "hasten"):
            said.append(("anew", told))
        elif word in ("put", "known"):
            said.append((word, told))
        else:
            said.append(("value", told) if word == "value_there" else ("done",))
    return said


def random_script(base, seed, many=12, nested=4):
    """A script of commands most of which can be taken."""
    chance, works, script = Random(seed), Works(base), []
    for _ in range(many):
        if nested and chance.random() < 0.15:
            script.append(("try", random_script(base, seed + 1, 3, nested - 1)))
            continue
        command = random_command(works, base, chance)
        if chance.random() < 0.2 and works.spots():
            spot = chance.choice(works.spots())
            name = chance.choice(works.program_there(spot).lines())[1]
            command = chance.choice([("known", spot), ("value_there", spot, name)])
        script.append(command)
        make(works, command)
    return script


def text_by_words(script, ahead=""):
    """The lines of a text, by the words of [117]."""
    found = []
    for command in script:
        word, inner = command[0], None
        if word == "put":
            inner = ["  " + line for line in program_text(command[1]).split("\n")]
        elif word == "try":
            inner = text_by_words(command[1], "  ")
        elif word == "replan":
            inner = [
                "  " + " ".join([name] + [f"{first} {end}" for first, end in command[2][name]]) for name in sorted(command[2])
            ]
        elif word == "cheapen":
            inner = ["  " + " ".join([*pair, *map(str, command[2][pair])]) for pair in sorted(command[2])]
        own = [str(part) for part in command if isinstance(part, (str, int))]
        found += [ahead + " ".join(own)]
        if inner is not None:
            found += [ahead + line for line in inner + ["end"]]
    return found


class ExamplesTest(unittest.TestCase):
    def test_most(self):
        base = most_base()
        self.assertEqual(play(Works(base), day())[3:], [
            ("anew", [("t", (0, 2)), ("t", (0, 3))]), ("value", "q"), ("tried", [("anew", [("t", (1, 3)), ("t", (0, 3))])]),
            ("refused", "InvalidName"),
        ])
        long = most_program()
        self.assertTrue(end_of(base, day()) == {0: (long, plain_plan(long), {"x": "q", "y": "o", "z": "o"})})
        self.assertTrue(shortened(base, day()) == day()[:4])
        self.assertTrue(read_script(base, script_text(day())) == day())
        text = script_text([
            ("put", Program(base, [("input", "x", "p")])), ("give", 0, "x", "q"), ("replan", 0, {"t": [(0, 2)], "s": []}),
            ("cheapen", 0, {("p", "p"): (0, 1, 0)}),
        ])
        self.assertEqual(text, "put\n  input x p\nend\ngive 0 x q\nreplan 0\n  s\n  t 0 2\nend\ncheapen 0\n  p p 0 1 0\nend")


class PlayTest(unittest.TestCase):
    def test_random_scripts(self):
        words = {}
        for seed in range(120):
            base = sign_base()
            script = random_script(base, seed)
            before = snapshot(script)
            works, other = Works(base), Works(base)
            told = play(works, script)
            self.assertEqual(snapshot(told), snapshot(played_by_words(other, script)))
            self.assertEqual(all_told(works), all_told(other))
            self.assertEqual(snapshot(script), before)
            for said in told:
                words[said[:1] if said[0] != "refused" else said] = True
        for word in ["put", "anew", "known", "value", "tried", "done"]:
            self.assertIn((word,), words)
        for word in ["InvalidName", "InvalidValue", "InvalidPlan", "Refused", "NothingToUndo", "NothingToRedo", "InvalidSpot"]:
            self.assertIn(("refused", word), words)

    def test_each_command_with_what_is_said(self):
        said = play(Works(sign_base()), long_day())
        self.assertEqual(said, [
            ("put", 0), ("anew", []), ("done",), ("done",), ("done",), ("known", {}), ("refused", "Refused"), ("anew", []), ("anew", []),
            ("anew", []), ("done",),
            ("tried", [("put", 1), ("tried", []), ("done",), ("tried", [("tried", [("done",)])])]), ("refused", "Refused"), ("refused", "Refused"),
            ("done",),
        ])

    def test_refusals_and_what_follows_them(self):
        works = Works(sign_base())
        script = [
            ("undo",), ("redo",), ("take", 0), ("put", two_program(sign_base("left"))), ("put", two_program()), ("give", 0, "t", "q"),
            ("give", 0, "x", "m"), ("give", 0, "x", "q"), ("drop", 0, "y"), ("drop", 0, "r"), ("value_there", 0, "t"), ("value_there", 0, "k"),
            ("value_there", 0, "x"), ("known", 0), ("known", 1), ("replan", 0, {}), ("replan", 0, {"r": [(0, 2)], "t": [(0, 3), (1, 3)]}),
            ("cheapen", 0, {}), ("cheapen", 0, {("p", "p"): (0, 0, 0)}), ("trim", 0), ("merge", 0), ("flatten", 0), ("flatten", 0),
            ("hasten", 7), ("trim", 7), ("merge", 7), ("flatten", 7), ("replan", 7, {}), ("cheapen", 7, {}), ("give", 7, "x", "q"), ("drop", 7, "x"),
            ("value_there", 7, "x"), ("try", [("take", 0), ("take", 0)]), ("known", 0),
        ]
        refused = lambda *words: [("refused", word) for word in words]
        self.assertEqual(play(works, script), [
            *refused("NothingToUndo", "NothingToRedo", "InvalidSpot", "Unlike"), ("put", 0), *refused("InvalidName", "InvalidValue"), ("anew", []),
            *refused("Refused", "InvalidName", "Refused", "InvalidName"), ("value", "q"), ("known", {"x": "q"}), *refused("InvalidSpot"),
            *refused("InvalidPlan", "InvalidPlan", "InvalidPrices", "InvalidPrices", "Refused", "Refused"), ("done",), *refused("Refused"),
            *refused(*["InvalidSpot"] * 9), ("tried", [("done",), ("refused", "InvalidSpot")]), ("known", {"x": "q"}),
        ])
        self.assertEqual([command[0] for command in works.log()], ["put", "give", "flatten"])

    def test_tries_within_tries(self):
        works = Works(sign_base())
        inner = ("try", [("give", 0, "y", "o"), ("known", 0), ("try", [("undo",), ("undo",), ("known", 0), ("try", [("undo",)])]), ("known", 0)])
        script = [("put", two_program()), ("give", 0, "x", "q"), inner, ("redo",), ("known", 0)]
        self.assertEqual(play(works, script)[2:], [
            ("tried", [
                ("anew", []), ("known", {"x": "q", "y": "o"}), ("tried", [("done",), ("done",), ("known", {}), ("tried", [("done",)])]),
                ("known", {"x": "q", "y": "o"}),
            ]),
            ("refused", "NothingToRedo"), ("known", {"x": "q"}),
        ])

    def test_a_works_that_has_something_is_changed(self):
        works = Works(sign_base())
        works.put(long_program())
        copy = works.copy()
        self.assertEqual(play(works=works, script=[("give", 0, "x", "q"), ("put", two_program())]), [("anew", []), ("put", 1)])
        self.assertEqual([works.spots(), copy.spots(), works.given_there(0)], [[0, 1], [0], {"x": "q"}])

    def test_works_and_scripts_that_are_none(self):
        for wrong in strange_objects() + [None, sign_base(), two_program()]:
            with self.assertRaises(InvalidWorks) as caught:
                play(wrong, None)
            self.assertIs(caught.exception.value, wrong)
        works = Works(sign_base())
        works.put(two_program())
        before = all_told(works)
        for wrong in no_scripts():
            for call in [lambda: play(works, wrong), lambda: script_text(wrong), lambda: end_of(sign_base(), wrong), lambda: shortened(sign_base(), wrong)]:
                with self.assertRaises(InvalidScript, msg=wrong) as caught:
                    call()
                self.assertIs(caught.exception.value, wrong)
            for nested in [[("take", 0), ("try", wrong)], [("try", [("try", wrong)])]]:
                with self.assertRaises(InvalidScript) as caught:
                    play(works, nested)
                self.assertIs(caught.exception.value, nested)
        self.assertEqual(all_told(works), before)
        for wrong in strange_objects() + [None, two_program(), Works(sign_base())]:
            if not isinstance(wrong, Base):
                for call in [end_of, shortened, read_script]:
                    with self.assertRaises(InvalidBase) as caught:
                        call(wrong, None)
                    self.assertIs(caught.exception.value, wrong)


def no_scripts():
    """Objects near scripts that are none."""
    found = [one for one in strange_objects() + strange_folds() if repr(one) != "[]"]
    found += [(("take", 0),), [["take", 0]], {0: ("take", 0)}, ("take", 0), [None], ["undo"], [()], "", "take 0", None, [("take", 0), None]]
    for command in [
        ("put",), ("put", None), ("put", two_program().lines()), ("put", two_program(), 0), ("put", sign_base()), ("take",), ("take", True),
        ("take", -1), ("take", "0"), ("take", None), ("take", 0, 0), ("give", 0, "x"), ("give", 0, "x", "Q"), ("give", 0, ["x"], "q"),
        ("give", "0", "x", "q"), ("give", False, "x", "q"), ("give", 0, "x", None), ("give", 0, "x", "q", "q"), ("drop", 0, ""), ("drop", 0),
        ("replan", 0), ("replan", 0, None), ("replan", 0, []), ("replan", 0, {"T": []}), ("replan", 0, {1: []}), ("replan", 0, {("t",): []}),
        ("replan", 0, {"t": None}), ("replan", 0, {"t": [(0, 3)]}), ("replan", 0, {"t": ((0, 2),)}), ("replan", 0, {"t": [[0, 2]]}),
        ("replan", 0, {"t": [(False, 2)]}), ("replan", 0, {"t": [(0, 2), (1, 3)]}), ("replan", 0, {"t": [(0, 3), (0, 2)]}), ("replan", 0, {"t": {}}),
        ("cheapen", 0), ("cheapen", 0, None), ("cheapen", 0, []), ("cheapen", 0, {"pp": (0, 0, 0)}), ("cheapen", 0, {("p",): (0, 0, 0)}),
        ("cheapen", 0, {("p", "p"): (0, 0)}), ("cheapen", 0, {("p", "p"): [0, 0, 0]}), ("cheapen", 0, {("p", "p"): (0, 0, True)}),
        ("cheapen", 0, {("p", "P"): (0, 0, 0)}), ("cheapen", 0, {("p", 1): (0, 0, 0)}), ("cheapen", 0, {("p", "p"): (0, 0, -1)}),
        ("cheapen", 0, {("p", "p", "p"): (0, 0, 0)}), ("cheapen", 0, {("p", ("p",)): (0, 0, 0)}), ("hasten",), ("hasten", None), ("trim", "x"),
        ("merge", 0, 0), ("flatten", [0]), ("known", "x"), ("known",), ("value_there", 0), ("value_there", 0, 0), ("undo", 0), ("redo", None),
        ("try",), ("try", None), ("try", ()), ("try", (("undo",),)), ("try", [["undo"]]), ("try", [("undo", 1)]), ("try", [], []),
        ("try", [("try", [("try", [None])])]), ("Undo",), ("end",), ("spots",), ("copy",), ("log",), (["undo"],), (None,), (True,), (0, "take"),
    ]:
        found += [[command], [("undo",), command], [command, ("undo",)]]
    return found


class TextTest(unittest.TestCase):
    def test_there_and_back(self):
        base = sign_base()
        scripts = [[], [("try", [])], [("try", [("try", [])])], long_day(), [("replan", 0, {})], [("cheapen", 3, {})], [("replan", 0, {"end": []})]]
        for script in scripts + [random_script(base, seed) for seed in range(60)]:
            if any_of_another_base(script, base):
                continue
            text = script_text(script)
            self.assertEqual(text, "\n".join(text_by_words(script)))
            self.assertTrue(read_script(base, text) == script)
            self.assertEqual(script_text(read_script(base=base, text=text)), text)
        self.assertEqual([script_text([]), read_script(base, "")], ["", []])
        self.assertEqual(script_text([("try", [("try", [("undo",)]), ("take", 10 ** 29)])]), f"try\n  try\n    undo\n  end\n  take {10 ** 29}\nend")

    def test_keys_ascending(self):
        base = sign_base()
        plan = {"t": [(0, 2)], "r": [], "s": [(0, 3), (1, 3)]}
        script = [("replan", 0, plan), ("cheapen", 0, dict(reversed(list(PRICES.items()))))]
        told = read_script(base, script_text(script))
        self.assertEqual([list(told[0][2]), list(told[1][2])], [["r", "s", "t"], sorted(PRICES)])
        self.assertTrue(told == script)

    def test_programs_of_the_base(self):
        for base in [sign_base(), sign_base("left"), kinds_base(signs(), all_triples(signs()), "left")]:
            told = read_script(base, script_text([("put", two_program())]))
            self.assertTrue(told[0][1].base() == base)
            self.assertEqual(told[0][1].lines(), two_program().lines())
        with self.assertRaises(InvalidText) as caught:
            read_script(most_base(), script_text([("put", two_program())]))
        self.assertEqual(caught.exception.value, script_text([("put", two_program())]))

    def test_bent_texts(self):
        base, told = sign_base(), {True: 0, False: 0}
        some = [
            day()[1:], [("put", two_program()), ("try", [("take", 0), ("try", []), ("replan", 0, {"t": HALVES, "k": []})]), ("undo",)],
            [("cheapen", 2, {("a", "n"): (0, 10, 200), ("p", "p"): (1, 2, 3)}), ("try", [("put", Program(base, INPUTS[:1]))])],
        ]
        for script in some:
            for text in bent_texts(script_text(script)):
                try:
                    read = read_script(base, text)
                except InvalidText as error:
                    self.assertIs(error.value, text)
                    told[False] += 1
                else:
                    self.assertEqual("\n".join(text_by_words(read)), text)
                    told[True] += 1
        self.assertTrue(told[True] > 30 and told[False] > 1000, told)

    def test_texts_that_are_none(self):
        base = sign_base()
        wrong = [one for one in strange_objects() + strange_folds() if one != ""] + [
            "\n", "take", "take 00", "take 01", "take 0 ", " take 0", "take  0", "take 0\n", "take -1", "take x", "Take 0", "take 0 0", "give 0 x", "end",
            "try", "try\nend\nend", "try\n  end", "try\n take 0\nend", "try\n   take 0\nend", "try\n  take 0\n end", "try x\nend", "try\n\nend", "undo\n\nredo",
            "put\nend", "put\n  input x b\nend", "put\n  input x p\n  input x p\nend", "put\ninput x p\nend", "put 0\n  input x p\nend", "put\n  input x p",
            "put\n  input x p\n  end\nend", "replan\nend", "replan 0", "replan 0\n  t 0\nend", "replan 0\n  t 0 3\nend", "replan 0\n  t 0 2\n  t 0 2\nend",
            "replan 0\n  t 0 2\n  s\nend", "replan 0\n  t 0 2 0\nend", "replan 0\n  T 0 2\nend", "replan 0\n  0 0 2\nend", "replan 0\n  t 0 02\nend",
            "replan 0\n\nend", "cheapen 0\n  p p 0 0\nend", "cheapen 0\n  p p 0 0 0 0\nend", "cheapen 0\n  p 0 0 0\nend", "cheapen 0\n  p p 0 0 x\nend",
            "cheapen 0\n  p p 0 0 0\n  p p 0 0 0\nend", "cheapen 0\n  p p 0 0 0\n  a p 0 0 0\nend", "undo 0", "undo redo", "known 0 x", "value_there 0",
            "value_there x", "give 0 x q q", "give x 0 q", "give 0 0 0", "put\n  input x p\nend\n", "take\t0", "take 0\r\ntake 0", "take 1 ", "replan 0\n  \nend",
        ]
        for text in wrong:
            with self.assertRaises(InvalidText, msg=text) as caught:
                read_script(base, text)
            self.assertIs(caught.exception.value, text)


def any_of_another_base(script, base):
    for command in script:
        if command[0] == "try" and any_of_another_base(command[1], base):
            return True
        if command[0] == "put" and command[1].base() != base:
            return True
    return False


class EndTest(unittest.TestCase):
    def test_ends_by_playing(self):
        for seed in range(60):
            base = sign_base()
            script = random_script(base, seed)
            works = Works(base)
            play(works, script)
            told = end_of(base, script)
            self.assertEqual(list(told), works.spots())
            for spot, (program, plan, given) in told.items():
                self.assertTrue(program == works.program_there(spot))
                self.assertEqual([list(plan.items()), list(given.items())], [list(works.plan_there(spot).items()), list(works.given_there(spot).items())])
        self.assertEqual([end_of(sign_base(), []), end_of(base=sign_base(), script=[("undo",)])], [{}, {}])

    def test_shortened_by_leaving_out(self):
        shorter, tried = 0, 0
        for seed in range(60):
            base = sign_base()
            script = random_script(base, seed, 10, 2)
            whole, left = end_of(base, script), list(script)
            for at in range(len(script))[::-1]:
                if end_of(base, left[:at] + left[at + 1:]) == whole:
                    del left[at]
            told = shortened(base, script)
            self.assertEqual(snapshot(told), snapshot(left))
            self.assertTrue(end_of(base, told) == whole)
            shorter += 0 < len(told) < len(script)
            tried += not any(command[0] == "try" for command in told)
        self.assertTrue(shorter > 30 and tried > 40)

    def test_by_hand(self):
        base = sign_base()
        put, give, other = ("put", two_program()), ("give", 0, "x", "q"), ("give", 0, "x", "o")
        for script, wanted in [
            ([put, give, other], [put, other]), ([put, give, ("drop", 0, "x")], [put, ("drop", 0, "x")]),
            ([put, give, ("undo",)], [put, give, ("undo",)]), ([put, ("take", 0)], [("take", 0)]), ([("try", [put]), ("known", 3)], []),
            ([put, put, ("take", 0)], [put, put, ("take", 0)]), ([put, ("undo",), ("redo",)], [put, ("redo",)]),
            ([put, ("hasten", 0), ("known", 0), ("flatten", 0)], [put, ("flatten", 0)]), ([], []), ([("put", two_program(sign_base("left")))], []),
        ]:
            self.assertTrue(shortened(base, script) == wanted, script)


class ValuesTest(unittest.TestCase):
    def test_what_is_passed_and_returned_may_be_changed(self):
        base, script = sign_base(), long_day()
        works = Works(base)
        said = play(works, script)
        before, wanted = all_told(works), snapshot(said)
        short, end = shortened(base, script[:11]), end_of(base, script[:11])
        told = [snapshot(short), snapshot([end[0][0].lines(), end[0][1], end[0][2]])]
        script[7][2]["t"].clear()
        script[8][2].clear()
        script[11][1].clear()
        script.clear()
        self.assertEqual(all_told(works), before)
        self.assertEqual(snapshot(said), wanted)
        self.assertEqual(snapshot(short), told[0])
        for part in said:
            for inner in part[1:]:
                if isinstance(inner, (list, dict)):
                    inner.clear()
        self.assertEqual(all_told(works), before)
        end[0][1].clear()
        end[0][2].clear()
        again = end_of(base, long_day()[:11])
        self.assertEqual(snapshot([again[0][0].lines(), again[0][1], again[0][2]]), told[1])

    def test_what_is_left_is_new(self):
        base = kinds_base(signs(), all_triples(signs()), "right")
        program = Program(base, INPUTS + [("fold", "t", ["x", "y", "z", "w"])])
        plan, prices = {"t": [(0, 4), (1, 4), (2, 4)]}, {pair: (0, pair[0] == "p" and 3 or 0, 1) for pair in signs().table()}
        script = [("put", program), ("replan", 0, plan), ("try", [("replan", 0, plan)]), ("cheapen", 0, prices)]
        told = shortened(base, script)
        wanted = snapshot(told)
        for command in told:
            for thing in command[1:]:
                if isinstance(thing, (list, dict)):
                    thing.clear()
        self.assertEqual(snapshot(shortened(base, script)), wanted)
        self.assertEqual(plan, {"t": [(0, 4), (1, 4), (2, 4)]})
        read = read_script(base, script_text(script))
        read[1][2]["t"].clear()
        read[2][1].clear()
        self.assertTrue(read_script(base, script_text(script)) == script)


class SizeTest(unittest.TestCase):
    def test_great_scripts_are_answered(self):
        base = sign_base()
        lines = INPUTS[:1] + [("fold", name, ["x"] * 9) for name in "abcdefghij"] + [("fold", "z", ["x"] * 12)]
        script = [("put", Program(base, lines)), ("give", 0, "x", "q")]
        for at in range(4):
            script += [("hasten", 0), ("cheapen", 0, some_prices(base, at, 10 ** 9))]
        script += [("try", [("try", [("try", [("try", [("merge", 0)])])])]), ("known", 0)]
        text = script_text(script)
        self.assertTrue(read_script(base, text) == script)
        told = shortened(base, script)
        self.assertTrue(end_of(base, told) == end_of(base, script))
        self.assertTrue(len(told) < len(script))

    def test_somewhat_beyond_the_limits(self):
        base, script = sign_base(), []
        for at in range(9):
            script = [("try", script), ("take", at)]
        self.assertTrue(read_script(base, script_text(script)) == script)
        self.assertEqual(len(play(Works(base), script)), 2)
        deep = "\n".join(["  " * at + "try" for at in range(125)] + ["  " * at + "end" for at in range(125)][::-1])
        self.assertEqual(script_text(read_script(base, deep)), deep)
        self.assertRaises(InvalidText, read_script, base, "take " + "9" * 5000)
        self.assertEqual(read_script(base, "take " + "9" * 300), [("take", int("9" * 300))])
        many = [("take", at) for at in range(300)]
        self.assertTrue(read_script(base, script_text(many)) == many)


if __name__ == "__main__":
    unittest.main()
