"""The functions and classes of the interface with their parameters: what is asked, which errors, and right objects."""

from shiftfolds import (
    changes, classes, cuts, edits, equals, folding, frontiers, hands, machines, operations, papers, prices, programs,
    rights, scripts, shifts, typings, works,
)
from shiftfolds.operations import Operation
from shiftfolds.programs import Program
from shiftfolds.rights import Base
from shiftfolds.typings import Kinds, Typing
from shiftfolds.works import Works

from tests.folds import SIGN_TRIPLES
from tests.helpers import signs, signs_holding, signs_table, snapshot, stop, stop_table, stop_typing


def same(one, other):
    return snapshot(one) == snapshot(other)


def among(*right):
    return lambda x: any(same(x, each) for each in right)


def none_of_them(x):
    return False


def sign_base():
    return Base(stop_typing(), SIGN_TRIPLES, "right")


def four_row():
    return ["p", "p", "n", "p"]


def tower():
    return [(0, 2), (0, 3), (0, 4)]


def halves():
    return [(0, 2), (0, 4), (2, 4)]


def some_prices():
    return {pair: (1, 2 * (pair[0] == "p"), 3) for pair in signs().table()}


def whole_grouping(x):
    """Whether an object is right where a grouping of any number of things is asked."""
    return isinstance(x, list) and shifts.is_grouping(len(x) + 1, x)


def two_program():
    inputs = [("input", "x", "p"), ("input", "y", "p"), ("input", "z", "n"), ("input", "w", "p")]
    return Program(sign_base(), inputs + [("fold", "r", ["z", "w"]), ("fold", "t", ["x", "y", "r"])])


def other_program():
    return Program(sign_base(), two_program().lines()[:4] + [("fold", "t", ["x", "z", "y"])])


def some_plan():
    return {"r": [(0, 2)], "t": [(0, 2), (0, 3)]}


def some_feed():
    return {"x": "qq", "y": "q", "z": "mm", "w": "q"}


def filled_works():
    """A works of two spots, with commands that can be taken back and made again."""
    made = Works(sign_base())
    made.put(two_program())
    made.put(two_program())
    for name, value in some_feed().items():
        made.give(0, name, value)
    made.drop(0, "y")
    made.undo()
    return made


def some_log():
    return [("put", two_program()), ("replan", 2, some_plan()), ("cheapen", 2, some_prices()), ("give", 0, "x", "o")]


def some_script():
    return some_log()[:1] + [
        ("give", 0, "x", "q"), ("replan", 0, some_plan()), ("cheapen", 0, some_prices()), ("try", [("flatten", 0), ("undo",)]), ("known", 0),
    ]


# Each parameter: its name, the word of its error (None: any object is judged), a right object, and what else is right.
OPERATION = ("operation", "InvalidOperation", stop, lambda x: isinstance(x, Operation))
KINDS = ("kinds", "InvalidKinds", signs, lambda x: isinstance(x, Kinds))
TYPED = ("typed", "InvalidTyping", stop_typing, lambda x: isinstance(x, Typing))
BASE = ("base", "InvalidBase", sign_base, lambda x: isinstance(x, Base))
HOLDING = ("holding", "InvalidHolding", signs_holding, none_of_them)
TOLD = ("told", "InvalidHolding", lambda: {"p": ["q"]}, among({}, {"p": ["q"]}))
JUDGED = ("value", None, lambda: None, lambda x: True)
IS_VALUE = lambda x: isinstance(x, str) and x in stop().names()
IS_VALUES = lambda x: isinstance(x, list) and len(x) > 0 and all(IS_VALUE(part) for part in x)
WORDS = (
    "values", "InvalidValue", lambda: ["b", "a", "c"], among(["q"], ["q", "m"], ["qq", "q"], ["p"], ["p", "x"]),
)
LIKENESS = [["m", "mm", "o", "q", "qq"]]
IS_TABLE = among({("a", "a"): "a"})
IS_WORD = among("a", "right", "abcdefgh", "undo")
SENT = {"m": "a", "mm": "b", "o": "c", "q": "d", "qq": "q"}
TRIPLE = ("triple", "InvalidTriples", lambda: ("p", "p", "n"), among(("p", "p", "p")))
TRIPLES = ("triples", "InvalidTriples", lambda: list(SIGN_TRIPLES), among([]))
WORD = ("word", "InvalidWord", lambda: "left", among("right"))
FOLDING = ("lists", "InvalidFolding", lambda: [["a"], ["n"], ["p"]], among([["a"], ["n"], ["p"]]))
ROW = ("row", "InvalidRow", four_row, among(["p"]))
GROUPING = ("grouping", "InvalidGrouping", tower, none_of_them)
ONE = ("one", "InvalidGrouping", tower, none_of_them)
OTHER = ("other", "InvalidGrouping", halves, none_of_them)
SIZE = ("size", "InvalidCount", lambda: 4, among(1, 2, 7, 10 ** 30))
FOLD = [BASE, ROW, GROUPING]
TWO = [BASE, ROW, ONE, OTHER]
SHIFTED = [KINDS, TRIPLES, ROW]
TYPED_TWO = [TYPED, ROW, ONE, OTHER]
PART_ONE = ("one", "InvalidGrouping", tower, none_of_them)
PART_OTHER = ("other", "InvalidGrouping", lambda: [(0, 4), (1, 4), (2, 4)], none_of_them)
INPUTS = ("inputs", "InvalidInputs", lambda: ["q", "qq", "mm", "q"], none_of_them)
PRICES = ("prices", "InvalidPrices", some_prices, none_of_them)
WEIGHTS = ("weights", "InvalidWeights", lambda: [5, 1, 1, 1], none_of_them)
ANY_GROUPING = ("grouping", "InvalidGrouping", halves, whole_grouping)
HANDS = ("hands", "InvalidHands", lambda: 2, among(1, 2, 7, 10 ** 30))
RUN = [ANY_GROUPING, HANDS]
LOSSES = ("losses", "InvalidLosses", lambda: [[(0, 2)]], among(
    [], [[]], [[], []], [[(0, 2)]], [[(0, 2)], [(0, 2)]],
))
LOST = ("lost", "InvalidCount", lambda: 2, lambda x: isinstance(x, int) and not isinstance(x, bool) and x >= 0)

IS_ANY_WORD = lambda x: isinstance(x, str) and 1 <= len(x) <= 8 and set(x) <= set("abcdefghijklmnopqrstuvwxyz")
BLOCKS = ("blocks", "InvalidBlocks", lambda: [(0, 2)], among([], [(0, 2)], [(0, 3)], [(0, 2), (0, 3)]))
CUT = ("cut", "InvalidCut", lambda: [2], among([], [1]))
PIECES = ("pieces", "InvalidCount", lambda: 2, among(1, 2, 7, 10 ** 30))
PROGRAM = ("program", "InvalidProgram", two_program, lambda x: isinstance(x, Program))
TWO_PROGRAMS = [
    ("one", "InvalidProgram", two_program, lambda x: isinstance(x, Program)),
    ("other", "InvalidProgram", two_program, lambda x: isinstance(x, Program)),
]
PARTED_PROGRAMS = [TWO_PROGRAMS[0], ("other", "InvalidProgram", other_program, lambda x: isinstance(x, Program))]
PLAN = ("plan", "InvalidPlan", some_plan, none_of_them)
FEED = ("feed", "InvalidInputs", some_feed, none_of_them)
WORK_LOSSES = ("losses", "InvalidLosses", lambda: [[("r", 0, 2)], [], [("t", 0, 3)]], among([], [[]], [[], []], [[("t", 0, 2)]]))
IS_CHANGE = lambda x: isinstance(x, tuple) and len(x) > 2 and len(x) == {"do": 4, "hold": 3, "drop": 3}.get(repr(x[0])[1:-1])
CHANGES = ("changes", "InvalidChanges", lambda: [("drop", "a", "o"), ("hold", "a", "o")], lambda x: isinstance(x, list) and all(map(IS_CHANGE, x)))
WORKS = ("works", "InvalidWorks", filled_works, lambda x: isinstance(x, Works))
IS_LOG = among([], [("take", 0)], [("take", False)], [("drop", "p", True)])
SCRIPT = ("script", "InvalidScript", some_script, among([], [("take", 0)], [("undo",)]))

CALLS = [
    (Operation, [("table", "InvalidOperation", stop_table, IS_TABLE)]),
    (operations.unlike_values, [OPERATION]),
    (operations.values_from, [OPERATION, ("values", "InvalidValue", lambda: ["m", "qq"], IS_VALUES)]),
    (operations.stopping_sums, [WORDS, ("zero", "InvalidCount", lambda: 2, among(0, 1, 2))]),
    (operations.differences, [WORDS]),
    (operations.swallowing, [OPERATION, ("value", "InvalidValue", lambda: "z", IS_WORD)]),
    (operations.opposite, [OPERATION]),
    (operations.renamed, [OPERATION, ("sent", "InvalidMap", lambda: dict(SENT), none_of_them)]),
    (operations.is_likeness, [OPERATION, JUDGED]),
    (operations.likeness_by, [
        OPERATION, ("pairs", "InvalidLikeness", lambda: [("o", "q")], among([], [("q", "q")])),
    ]),
    (operations.folded, [OPERATION, ("likeness", "InvalidLikeness", lambda: [list(LIKENESS[0])], none_of_them)]),
    (operations.bracket_likeness, [OPERATION]),
    (Kinds, [("table", "InvalidTable", signs_table, IS_TABLE)]),
    (Typing, [OPERATION, KINDS, HOLDING]),
    (typings.breaking, [OPERATION, KINDS, HOLDING]),
    (typings.is_breaking, [OPERATION, KINDS, HOLDING, JUDGED]),
    (typings.kinds_of_value, [TYPED, ("word", "InvalidValue", lambda: "q", IS_VALUE)]),
    (typings.least_holding, [OPERATION, KINDS, TOLD]),
    (typings.least_typing, [OPERATION, KINDS, TOLD]),
    (typings.kinds_typing, [KINDS]),
    (typings.finest_typing, [OPERATION]),
    (typings.likeness_steps, [OPERATION]),
    (typings.are_likeness_steps, [OPERATION, JUDGED]),
    (rights.right_triples, [TYPED]),
    (rights.is_right, [TYPED, TRIPLE]),
    (rights.parting_values, [TYPED, TRIPLE]),
    (rights.are_parting_values, [TYPED, TRIPLE, JUDGED]),
    (rights.is_settled, [KINDS, TRIPLES, WORD]),
    (rights.missing_triple, [KINDS, ("triples", "InvalidTriples", lambda: [("a", "p", "p")], among([])), WORD]),
    (rights.is_missing, [KINDS, TRIPLES, WORD, JUDGED]),
    (Base, [TYPED, TRIPLES, WORD]),
    (rights.right_base, [TYPED, WORD]),
    (rights.greatest_lots, [TYPED, WORD]),
    (rights.kinds_base, [KINDS, TRIPLES, WORD]),
    (rights.mirrored_base, [BASE]),
    (folding.is_folding, [KINDS, TRIPLES, JUDGED]),
    (folding.all_foldings, [KINDS, TRIPLES]),
    (folding.coarsest, [KINDS, TRIPLES]),
    (folding.apart, [KINDS, TRIPLES, ("one", "InvalidKind", lambda: "n", among("a")), (
        "other", "InvalidKind", lambda: "p", among("a"),
    )]),
    (folding.is_mark, [KINDS, TRIPLES, ("one", "InvalidKind", lambda: "n", among("a")), (
        "other", "InvalidKind", lambda: "p", among("a"),
    ), JUDGED]),
    (folding.folded_kinds, [KINDS, TRIPLES, FOLDING]),
    (folding.folded_triples, [KINDS, TRIPLES, FOLDING]),
    (folding.row_folded, [KINDS, TRIPLES, FOLDING, ROW]),
    (folding.folded_typing, [TYPED, FOLDING]),
    (shifts.is_row, [KINDS, JUDGED]),
    (shifts.is_grouping, [SIZE, JUDGED]),
    (shifts.plain, [SIZE]),
    (shifts.let_deeds, SHIFTED + [GROUPING]),
    (shifts.done, SHIFTED + [GROUPING, ("deed", "InvalidDeed", lambda: ("right", 0, 2, 3, 4), none_of_them)]),
    (shifts.is_chain, SHIFTED + [ONE, OTHER, JUDGED]),
    (shifts.joined, TWO),
    (shifts.chain_between, TWO),
    (shifts.hull, [KINDS, TRIPLES, WORD]),
    (shifts.side, [TYPED, ROW, ONE, OTHER]),
    (classes.last_of, FOLD),
    (classes.class_of, FOLD),
    (classes.are_joined, TWO),
    (classes.splits_of, FOLD),
    (classes.class_with, [
        BASE, ROW, ("one", "InvalidGrouping", lambda: [(0, 2)], among([], [(0, 2)], [(0, 2), (0, 3)])),
        ("other", "InvalidGrouping", lambda: [(0, 2)], among([(0, 2)])),
    ]),
    (classes.class_size, FOLD),
    (classes.size_by_splits, FOLD),
    (classes.class_number, [BASE, ROW]),
    (classes.class_at, FOLD + [("number", "InvalidCount", lambda: 1, among(0, 1))]),
    (classes.class_place, FOLD),
    (classes.coming, FOLD),
    (classes.comes, FOLD + [JUDGED]),
    (classes.lone_stretches, [BASE, ROW]),
    (classes.one_class, [BASE, ROW]),
    (equals.are_inputs, [TYPED, ROW, JUDGED]),
    (equals.value_of, [TYPED, ROW, GROUPING, INPUTS]),
    (equals.are_equal, TYPED_TWO),
    (equals.parting_inputs, [TYPED, ROW, PART_ONE, PART_OTHER]),
    (equals.is_parting, [TYPED, ROW, PART_ONE, PART_OTHER, JUDGED]),
    (equals.equal_folds, [TYPED, ROW]),
    (equals.free_typing, [KINDS, TRIPLES, ROW]),
    (equals.free_parting, [TYPED, ROW, PART_ONE, PART_OTHER]),
    (equals.is_free_parting, [TYPED, ROW, PART_ONE, PART_OTHER, JUDGED]),
    (equals.parting_operation, [BASE, ROW, PART_ONE, PART_OTHER]),
    (equals.is_parting_operation, [BASE, ROW, PART_ONE, PART_OTHER, JUDGED]),
    (equals.shift_chain, TYPED_TWO),
    (equals.is_shift_chain, TYPED_TWO + [JUDGED]),
    (equals.verdict, TYPED_TWO),
    (equals.tells_all, [TYPED, ("size", "InvalidCount", lambda: 2, among(1, 2, 7, 10 ** 30))]),
    (prices.are_prices, [BASE, JUDGED]),
    (prices.price_of, FOLD + [PRICES]),
    (prices.least_price, FOLD + [PRICES]),
    (prices.cheapest, FOLD + [PRICES]),
    (prices.is_cheapest, FOLD + [PRICES, JUDGED]),
    (prices.many_cheapest, FOLD + [PRICES]),
    (prices.bounds_of, FOLD + [PRICES]),
    (prices.are_bounds, FOLD + [PRICES, JUDGED]),
    (prices.two_prices, FOLD + [PRICES, ("others", "InvalidPrices", some_prices, none_of_them)]),
    (prices.most_shared, FOLD + [("wished", "InvalidGrouping", halves, none_of_them)]),
    (prices.nearest, FOLD + [("wished", "InvalidGrouping", halves, none_of_them)]),
    (prices.is_nearest, FOLD + [("wished", "InvalidGrouping", halves, none_of_them), JUDGED]),
    (prices.prices_alike, FOLD + [PRICES]),
    (prices.unlike_shift, FOLD + [PRICES]),
    (prices.is_unlike_shift, FOLD + [PRICES, JUDGED]),
    (edits.depths, [ANY_GROUPING]),
    (edits.depth_of, [ANY_GROUPING]),
    (edits.grouping_of_depths, [("depths", "InvalidWeights", lambda: [2, 2, 2, 2], among([0], [1, 1]))]),
    (edits.edit, FOLD + [INPUTS, ("place", "InvalidCount", lambda: 2, among(0, 1, 2)), (
        "value", "InvalidValue", lambda: "m", none_of_them,
    )]),
    (edits.least_depth, FOLD),
    (edits.flattest, FOLD),
    (edits.is_flattest, FOLD + [JUDGED]),
    (edits.depth_bounds, FOLD),
    (edits.are_depth_bounds, FOLD + [JUDGED]),
    (edits.weight_of, [("grouping", "InvalidGrouping", halves, whole_grouping), WEIGHTS]),
    (edits.least_weight, FOLD + [WEIGHTS]),
    (edits.best_kept, FOLD + [WEIGHTS]),
    (edits.is_best_kept, FOLD + [WEIGHTS, JUDGED]),
    (edits.weight_bounds, FOLD + [WEIGHTS]),
    (edits.are_weight_bounds, FOLD + [WEIGHTS, JUDGED]),
    (edits.room_of, [ANY_GROUPING]),
    (edits.two_rooms, FOLD),
    (hands.is_schedule, RUN + [JUDGED]),
    (hands.schedule, RUN),
    (hands.is_least_schedule, RUN + [JUDGED]),
    (hands.bar_steps, RUN + [("depth", "InvalidCount", lambda: 1, among(0, 1))]),
    (hands.greatest_bar, RUN),
    (hands.is_greatest_bar, RUN + [JUDGED]),
    (hands.run, RUN + [LOSSES]),
    (hands.bars_left, RUN + [LOSSES]),
    (hands.costly_steps, RUN + [LOSSES]),
    (hands.worst_steps, RUN + [LOST]),
    (hands.worst_losses, RUN + [LOST]),
    (hands.are_worst_losses, RUN + [LOST, JUDGED]),
    (frontiers.profile, [ANY_GROUPING]),
    (frontiers.steps_of, RUN),
    (frontiers.frontier, FOLD),
    (frontiers.frontier_groupings, FOLD),
    (frontiers.are_frontier_groupings, FOLD + [JUDGED]),
    (frontiers.fronts_of, FOLD),
    (frontiers.are_fronts, FOLD + [JUDGED]),
    (frontiers.class_steps, FOLD + [HANDS]),
    (frontiers.fastest, FOLD + [HANDS]),
    (frontiers.is_fastest, FOLD + [HANDS, JUDGED]),
    (frontiers.best_for_all, FOLD),
    (frontiers.is_best_for_all, FOLD + [JUDGED]),
    (cuts.block_numbers, FOLD),
    (cuts.sure_blocks, FOLD),
    (cuts.grouping_with, FOLD + [BLOCKS]),
    (cuts.is_grouping_with, FOLD + [BLOCKS, JUDGED]),
    (cuts.many_with, FOLD + [BLOCKS]),
    (cuts.goes, FOLD + [CUT]),
    (cuts.grouping_by, FOLD + [CUT]),
    (cuts.is_grouping_by, FOLD + [CUT, JUDGED]),
    (cuts.cuts_into, FOLD + [PIECES]),
    (cuts.fewest_pieces, FOLD + [("most",) + PIECES[1:]]),
    (cuts.evenest_cut, FOLD + [PIECES]),
    (cuts.is_evenest_cut, FOLD + [PIECES, JUDGED]),
    (Program, [BASE, ("lines", "InvalidProgram", lambda: two_program().lines(), none_of_them)]),
    (programs.kind_made, [PROGRAM, ("name", "InvalidName", lambda: "r", among(*"xyzwrt"))]),
    (programs.trimmed, [PROGRAM]),
    (programs.expanded, [PROGRAM]),
    (programs.surely_alike, TWO_PROGRAMS),
    (programs.inlined, [PROGRAM, ("name", "InvalidName", lambda: "r", none_of_them)]),
    (programs.flattened, [PROGRAM]),
    (programs.taken_out, [
        PROGRAM, ("name", "InvalidName", lambda: "t", among("r")), ("first", None, lambda: 0, None), ("end", None, lambda: 2, None),
        ("newer", "InvalidName", lambda: "k", lambda x: IS_ANY_WORD(x) and x not in list("xyzwrt")),
    ]),
    (programs.merged, [PROGRAM]),
    (programs.plain_plan, [PROGRAM]),
    (programs.is_plan, [PROGRAM, JUDGED]),
    (programs.plan_price, [PROGRAM, PLAN, PRICES]),
    (programs.cheapest_plan, [PROGRAM, PRICES]),
    (programs.is_cheapest_plan, [PROGRAM, PRICES, JUDGED]),
    (programs.levels, [PROGRAM, PLAN]),
    (programs.soonest_plan, [PROGRAM]),
    (programs.is_soonest_plan, [PROGRAM, JUDGED]),
    (programs.program_text, [PROGRAM]),
    (programs.read_program, [BASE, ("text", "InvalidText", lambda: programs.program_text(two_program()), among("input x p"))]),
    (machines.is_feed, [PROGRAM, JUDGED]),
    (machines.values_by, [PROGRAM, PLAN, FEED]),
    (machines.result_of, [PROGRAM, FEED]),
    (machines.works, [PROGRAM, PLAN]),
    (machines.needs, [PROGRAM, PLAN, ("work", "InvalidBlock", lambda: ("t", 0, 3), among(("t", 0, 2)))]),
    (machines.distances, [PROGRAM, PLAN]),
    (machines.is_run, [PROGRAM, PLAN, HANDS, JUDGED]),
    (machines.run_by, [PROGRAM, PLAN, HANDS, WORK_LOSSES]),
    (machines.trace, [PROGRAM, PLAN, FEED, HANDS]),
    (machines.is_trace, [PROGRAM, PLAN, FEED, HANDS, JUDGED]),
    (machines.steps_at_least, [PROGRAM, PLAN, HANDS]),
    (machines.steps_at_most, [PROGRAM, PLAN, HANDS]),
    (machines.edited, [
        PROGRAM, PLAN, FEED, ("name", "InvalidName", lambda: "x", none_of_them), ("value", "InvalidValue", lambda: "o", among("q", "qq")),
    ]),
    (machines.parting_feed, PARTED_PROGRAMS),
    (machines.is_parting_feed, PARTED_PROGRAMS + [JUDGED]),
    (changes.changed_by, [TYPED, CHANGES]),
    (changes.broken_by, [TYPED, CHANGES]),
    (changes.typing_behind, [TYPED, CHANGES]),
    (changes.rights_changed, [TYPED, CHANGES]),
    (changes.fate, [TYPED, CHANGES, ROW, ONE, OTHER]),
    (changes.is_fate, [TYPED, CHANGES, ROW, ONE, OTHER, JUDGED]),
    (changes.breaking_lots, [TYPED, CHANGES, ROW, ONE, OTHER]),
    (changes.lost_of, [BASE, CHANGES]),
    (Works, [BASE]),
    (works.replayed, [WORKS, ("log", "InvalidLog", some_log, IS_LOG)]),
    (scripts.script_text, [SCRIPT]),
    (scripts.read_script, [BASE, ("text", "InvalidText", lambda: scripts.script_text(some_script()), among("", "take 0", "undo"))]),
    (scripts.end_of, [BASE, SCRIPT]),
    (scripts.shortened, [BASE, SCRIPT]),
    (papers.operation_text, [OPERATION]),
    (papers.read_operation, [("text", "InvalidText", lambda: papers.operation_text(stop()), among("z z = z"))]),
    (papers.typing_text, [TYPED]),
    (papers.read_typing, [("text", "InvalidText", lambda: papers.typing_text(stop_typing()), none_of_them)]),
    (papers.base_text, [BASE]),
    (papers.read_base, [("text", "InvalidText", lambda: papers.base_text(sign_base()), none_of_them)]),
    (papers.change_text, [("change", "InvalidChange", lambda: ("drop", "a", "o"), among(("do", "q", "q", "o"), ("drop", "p", "o")))]),
    (papers.read_change, [("text", "InvalidText", lambda: "drop a o", among("do q q o"))]),
]
# What changes a works: its methods, and what plays on it, told by their names and with the parameters.
SPOT = ("spot", "InvalidSpot", lambda: 0, among(0, 1))
METHODS = [
    ("put", [("program", "InvalidProgram", two_program, lambda x: isinstance(x, Program))]),
    ("take", [SPOT]),
    ("program_there", [SPOT]),
    ("plan_there", [SPOT]),
    ("given_there", [SPOT]),
    ("give", [SPOT, ("name", "InvalidName", lambda: "x", none_of_them), ("value", "InvalidValue", lambda: "o", among("q", "qq"))]),
    ("drop", [SPOT, ("name", "InvalidName", lambda: "x", none_of_them)]),
    ("known", [SPOT]),
    ("value_there", [SPOT, ("name", "InvalidName", lambda: "x", none_of_them)]),
    ("replan", [SPOT, PLAN]),
    ("cheapen", [SPOT, PRICES]),
    ("hasten", [SPOT]),
    ("trim", [SPOT]),
    ("merge", [SPOT]),
    ("flatten", [SPOT]),
]
# What is judged True with the right objects of the others: what the functions beside the judges return.
TRUE_OF = {
    "is_likeness": [LIKENESS], "is_folding": [[["a"], ["n"], ["p"]]], "is_row": [four_row()],
    "is_grouping": [tower(), halves()], "is_chain": [[("right", 0, 2, 3, 4)]], "comes": [(2, 4, ((2, 4),))],
    "are_parting_values": [("q", "qq", "m")], "are_inputs": [["q", "qq", "mm", "q"]],
    "is_parting": [equals.parting_inputs(stop_typing(), four_row(), tower(), PART_OTHER[2]())],
    "is_free_parting": [equals.free_parting(stop_typing(), four_row(), tower(), PART_OTHER[2]())],
    "is_parting_operation": [equals.parting_operation(sign_base(), four_row(), tower(), PART_OTHER[2]())],
    "is_shift_chain": [equals.shift_chain(stop_typing(), four_row(), tower(), halves())],
    "are_prices": [some_prices()],
    "is_cheapest": [prices.cheapest(sign_base(), four_row(), tower(), some_prices())],
    "are_bounds": [prices.bounds_of(sign_base(), four_row(), tower(), some_prices())],
    "is_nearest": [prices.nearest(sign_base(), four_row(), tower(), halves())],
    "is_unlike_shift": [prices.unlike_shift(sign_base(), four_row(), tower(), some_prices())],
    "is_flattest": [edits.flattest(sign_base(), four_row(), tower())],
    "are_depth_bounds": [edits.depth_bounds(sign_base(), four_row(), tower())],
    "is_best_kept": [edits.best_kept(sign_base(), four_row(), tower(), [5, 1, 1, 1])],
    "are_weight_bounds": [edits.weight_bounds(sign_base(), four_row(), tower(), [5, 1, 1, 1])],
    "is_schedule": [hands.schedule(halves(), 2)], "is_least_schedule": [hands.schedule(halves(), 2)],
    "is_greatest_bar": [hands.greatest_bar(halves(), 2)], "are_worst_losses": [hands.worst_losses(halves(), 2, 2)],
    "are_frontier_groupings": [frontiers.frontier_groupings(sign_base(), four_row(), tower())],
    "are_fronts": [frontiers.fronts_of(sign_base(), four_row(), tower())],
    "is_fastest": [frontiers.fastest(sign_base(), four_row(), tower(), 2)],
    "is_best_for_all": [frontiers.best_for_all(sign_base(), four_row(), tower())],
    "is_grouping_with": [cuts.grouping_with(sign_base(), four_row(), tower(), [(0, 2)]), halves(), tower()],
    "is_grouping_by": [cuts.grouping_by(sign_base(), four_row(), tower(), [2])],
    "is_evenest_cut": [cuts.evenest_cut(sign_base(), four_row(), tower(), 2)],
    "is_plan": [some_plan()], "is_cheapest_plan": [programs.cheapest_plan(two_program(), some_prices())],
    "is_soonest_plan": [programs.soonest_plan(two_program())], "is_feed": [some_feed()],
    "is_run": [machines.run_by(two_program(), some_plan(), 2, []), [[("t", 0, 2)], [("r", 0, 2)], [("t", 0, 3)]]],
    "is_trace": [machines.trace(two_program(), some_plan(), some_feed(), 2), machines.trace(two_program(), some_plan(), some_feed(), 1)],
    "is_parting_feed": [machines.parting_feed(two_program(), other_program())],
    "is_fate": [changes.fate(stop_typing(), [("drop", "a", "o"), ("hold", "a", "o")], four_row(), tower(), halves())],
}
