"""What several tests need: small operations, ALL partings of values, and objects that are none of what is asked."""

from itertools import product
from random import Random

from shiftfolds.errors import FoldError, InvalidValue
from shiftfolds.operations import Operation
from shiftfolds.programs import Program
from shiftfolds.rights import Base
from shiftfolds.typings import Kinds, Typing
from shiftfolds.works import Works

STOP_NAMES = ["mm", "m", "o", "q", "qq"]


def stop_table():
    return {
        (x, y): STOP_NAMES[max(0, min(4, STOP_NAMES.index(x) + STOP_NAMES.index(y) - 2))]
        for x in STOP_NAMES for y in STOP_NAMES
    }


def stop():
    """Sums from -2 to 2 that stop at both ends."""
    return Operation(stop_table())


def signs_table():
    return {(x, y): x if x == y else "a" for x in "anp" for y in "anp"}


def signs():
    return Kinds(signs_table())


def signs_holding():
    return {"p": ["o", "q", "qq"], "n": ["m", "mm", "o"], "a": ["m", "mm", "o", "q", "qq"]}


def stop_typing():
    return Typing(stop(), signs(), signs_holding())


def random_table(names, made, seed):
    chance = Random(seed)
    return {(x, y): chance.choice(made) for x in names for y in names}


def small_operations():
    """ALL operations of one and of two values, and some of three and of four, those with few results among them."""
    found = [Operation({("k", "k"): "k"})]
    for made in product("ab", repeat=4):
        found.append(Operation(dict(zip(product("ab", repeat=2), made))))
    for seed in range(60):
        found.append(Operation(random_table("abc", "abc"[:1 + seed % 3], seed)))
    for seed in range(60):
        found.append(Operation(random_table("pqrs", "pqrs"[:1 + seed % 4], seed)))
    found.append(Operation({(x, y): "q" if x == y == "p" else "o" for x in "opq" for y in "opq"}))
    found.append(Operation({(x, y): min(x, y) for x in "abcd" for y in "abcd"}))
    found.append(Operation({(x, y): x for x in "abcd" for y in "abcd"}))
    found.append(Operation({(x, y): "abcd"[("abcd".index(x) + "abcd".index(y)) % 4] for x in "abcd" for y in "abcd"}))
    found.append(Operation({(x, y): "abcd"[("abcd".index(x) - "abcd".index(y)) % 4] for x in "abcd" for y in "abcd"}))
    found.append(ahead_operation())
    return found


def long_words(made, names):
    """An operation in which two make what is told, and the value o otherwise."""
    return Operation({(x, y): made.get(x + y, "o") for x in names for y in names})


def ahead_operation():
    """One in whose bracket likeness u and v are alike for c and d are: c is (aa)a, d is a(aa)."""
    made = {"aa": "b", "ba": "c", "ab": "d", "ca": "u", "bb": "u", "ad": "u", "ac": "v", "da": "v"}
    return long_words(made, "abcdouv")


def behind_operation():
    """One in whose bracket likeness u and v are alike for e and f are: e is (ab)b, f is a(bb)."""
    made = {
        "ab": "c", "bb": "d", "cb": "e", "ad": "f", "db": "g", "bd": "h", "eb": "u", "fb": "v", "cd": "u", "ag": "v",
        "ah": "u",
    }
    return long_words(made, "abcdefghouv")


def step_operations():
    """Operations whose steps have reasons of each word."""
    return small_operations() + [behind_operation()]


def all_partings(names):
    """ALL partings of names, as ascending lists of ascending lists."""
    if not names:
        return [[]]
    found = []
    for parting in all_partings(names[1:]):
        found.append(sorted([[names[0]]] + parting))
        for part in parting:
            found.append(sorted([sorted(part + [names[0]])] + [other for other in parting if other != part]))
    return found


def part_of(parting, name):
    for part in parting:
        if name in part:
            return part
    raise AssertionError(name)


def alike(parting, one, other):
    return part_of(parting, one) == part_of(parting, other)


def alike_pairs(parting):
    return {(one, other) for part in parting for one in part for other in part}


def is_congruence(table, parting):
    """A likeness, by the words of its definition."""
    for one in parting:
        for other in parting:
            made = [table[(x, y)] for x in one for y in other]
            if not all(alike(parting, made[0], value) for value in made):
                return False
    return True


def all_likenesses(operation):
    return [parting for parting in all_partings(operation.names()) if is_congruence(operation.table(), parting)]


def brackets(operation, x, y, z):
    return operation.do(operation.do(x, y), z), operation.do(x, operation.do(y, z))


def deep(depth):
    found = []
    for _ in range(depth):
        found = [found]
    return found


def strange_objects():
    """Objects of every kind that "any object" names."""
    return [
        None, True, False, 0, 1, 2, -1, 7, 10 ** 30, "", "a", "q", "Q", "q q", " q", "q\n", "\t", "q1", "abcdefgh",
        "abcdefghi", "right", [], ["q"], ["q", "q"], ["qq", "q"], ["q", "m"], ["Q"], [1], [True], [None], [["q"]],
        [["q"], []], [("q",)], ["q", ["q"]], ["q", 1], (), ("q",), ("q", "q"), ("q", ["q"]), (("q", "q"),),
        [("q", "q")], [("q", "x")], [("q", "q", "q")], [["q", "q"]], [("q", ["q"])], [[["q"]]], {}, {"p": ["q"]},
        {"p": ("q",)}, {"p": "q"}, {"p": [["q"]]}, {1: ["q"]}, {"x": ["q"]}, {("a", "a"): "a"}, {("a", "a"): "b"},
        {("a", "a"): ["a"]}, {("a",): "a"}, {("a", "a", "a"): "a"}, {("a", 1): "a"}, {("a", "b"): "a"}, {"a": "a"},
        {True: 1}, {None: None}, {(("a", "a"), "a"): "a"}, deep(38), {"a": deep(37)}, FoldError(), InvalidValue("q"),
        {InvalidValue("q"): "q"}, {(InvalidValue(), "a"): "a"}, Operation({("q", "q"): "q"}),
        Kinds({("p", "p"): "p"}), Typing(Operation({("q", "q"): "q"}), Kinds({("p", "p"): "p"}), {"p": ["q"]}),
        [Operation({("q", "q"): "q"})], (stop(),), {"p": stop()}, {("a", "a"): stop()},
    ]


def strange_folds():
    """More objects, among them what is asked somewhere of bases, rows, groupings and the like, and what is near it."""
    return [
        Base(stop_typing(), [], "left"), [Base(stop_typing(), [], "left")], ["p"], ["p", "x"], ["p", ["p"]], ("p", "p"),
        [[]], [()], [[], []], (0, 2),
        [(0, 2)], ((0, 2),), [[0, 2]], [(0, 2), (0, 3)], [(0, 3), (0, 2)], [(0, 2), (0, 2)], [(False, 2)], [(0, 2), 3],
        [(0, 3)], [(0, 2, 2)], [(0, 1)], [(0, 3), (1, 2)], [[(0, 2)]], [[(0, 2)], [(0, 2)]], [[0]], [0], [0, 0], [True],
        [1, 1], [False], [-1], [(0, "2")], {(0, 2): 1}, {("p", "p"): (0, 0, 0)}, {("p", "p"): (0, 1)},
        {("p", "p"): [0, 0, 0]}, {("p", "p"): (0, 0, True)}, {("p", "p"): 1}, {(0, 2, ((0, 2),)): 1}, {0: 1},
        ("p", "p", "p"), [("p", "p", "p"), ("n", "n", "n")], [["p", "p", "p"]], [("p", "p", "x")], [("p", "p", 1)],
        ("right", 0, 1, 2, 3), [("right", 0, 1, 2, 3)], [("right", False, 1, 2, 3)], ("up", 0, 1, 2, 3),
        ([(0, 2)], ("right", 0, 1, 2, 3)), ([], [], 0, ("p", "p")), (0, 2, ((0, 2),)), [(0, 2, ((0, 2),))],
        (stop_typing(), ["q"]), [stop_typing(), ["q"]], [["a", "n", "p"]], [["a"], ["n"], ["p"]], [["p"], ["a", "n"]],
    ]


def strange_programs():
    """More objects, among them what is asked somewhere of programs, works and texts, and what is near it."""
    base = Base(stop_typing(), [], "left")
    program = Program(base, [("input", "x", "p")])
    works = Works(base)
    works.put(program)
    return [
        program, [program], {"x": program}, works, (works,), {works: program}, {"t": [(0, 2)]}, {"t": [(0, 2)], "r": [(0, 2)]}, {"x": "q"},
        {"x": "qq", "y": "q", "z": "mm"}, {"r": [(0, 2)], "t": [(False, 2), (0, 3)]}, {"r": [(0, 2)], "t": [(0, 3), (1, 3)]}, ("t", 0, 2),
        ("t", False, 2), [("t", 0, 2)], [[("t", 0, 2)]], [[("t", 0, 2)], [("t", 0, 2), ("t", 0, 2)]], [[("t", False, 2)]], [{("t", 0, 2): "q"}],
        {("t", 0, 2): "q"}, [1], [1, 2, 4], [2, 1], [0], ("input", "x", "p"), [("input", "x", "p"), ("fold", "t", ("x",))],
        [("input", "x", "p"), ("fold", "t", ["y"])], [("input", "x", "p", "p")], ("do", "q", "q", "o"), [("do", "q", "q", "o")],
        [("do", "q", "q", "Q")], [("do", "q", "q")], [["drop", "p", "o"]], ("drop", "p", "o"), [("drop", "p", True)], ("stands", []), ("equal",),
        [("undo",)], [("take", 0)], [("take", False)], [("take", 0, 0)], [["take", 0]], [("try", [["undo"]])], [("put", None, None)],
        "z z = z", "input x p", "take 0", "undo", "do q q o", "z z = z\n", "input x p\n", " take 0", {"x": ["q"], "y": [("t", 0)]}, [{}], [[], {}],
    ]


def snapshot(value):
    """A picture of an object, by which a change deep within it, of a kind or of an order, is seen."""
    if isinstance(value, (list, tuple)):
        return [value.__class__.__name__] + [snapshot(part) for part in value]
    if isinstance(value, dict):
        return ["dict"] + [[snapshot(key), snapshot(part)] for key, part in value.items()]
    if isinstance(value, (Operation, Kinds)):
        return [value.__class__.__name__, snapshot(value.table())]
    if isinstance(value, Typing):
        parts = [value.operation(), value.kinds(), value.holding()]
        return ["Typing"] + [snapshot(part) for part in parts]
    if isinstance(value, Base):
        return ["Base"] + [snapshot(part) for part in [value.typed(), value.triples(), value.word()]]
    if isinstance(value, Program):
        return ["Program", snapshot(value.base()), snapshot(value.lines())]
    if isinstance(value, Works):
        there = [[spot, value.program_there(spot), value.plan_there(spot), value.given_there(spot)] for spot in value.spots()]
        return ["Works", snapshot(there), snapshot(value.log())]
    if isinstance(value, FoldError):
        return [value.__class__.__name__, snapshot(getattr(value, "value", None))]
    return [value.__class__.__name__, repr(value)]
