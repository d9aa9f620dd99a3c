"""Section 14: cuts."""

import unittest
from itertools import combinations
from random import Random

from shiftfolds.classes import class_size, splits_of
from shiftfolds.cuts import (
    block_numbers, cuts_into, evenest_cut, fewest_pieces, goes, grouping_by, grouping_with, is_evenest_cut,
    is_grouping_by, is_grouping_with, many_with, sure_blocks,
)
from shiftfolds.errors import InvalidBase, InvalidBlocks, InvalidCount, InvalidCut, InvalidGrouping, InvalidRow
from shiftfolds.rights import kinds_base
from shiftfolds.shifts import plain
from shiftfolds.typings import Kinds

from tests.folds import SIGN_TRIPLES, all_triples, bent_groupings, classes_by_deeds, folds, groupings, overlap
from tests.helpers import signs, strange_folds, strange_objects

ROW, HALVES, OTHER = ["p", "p", "n", "p"], [(0, 2), (0, 4), (2, 4)], [(0, 4), (1, 4), (2, 4)]


def sign_base():
    return kinds_base(signs(), SIGN_TRIPLES, "right")


def all_cuts(size):
    return [list(cut) for many in range(size) for cut in combinations(range(1, size), many)]


def pieces_of(size, cut):
    return list(zip([0] + cut, cut + [size]))


def cut_goes(size, cut, found):
    """Whether ONE of some groupings has each piece of two things or more."""
    wanted = [piece for piece in pieces_of(size, cut) if piece[1] - piece[0] > 1]
    return any(all(piece in grouping for piece in wanted) for grouping in found)


def greatest(size, cut):
    return max(end - first for first, end in pieces_of(size, cut))


def wrong_counts():
    return [0, -1, True, False, "1", None, [1], (1,), {}, ""]


class ExamplesTest(unittest.TestCase):
    def test_signs(self):
        base = sign_base()
        self.assertEqual(list(block_numbers(base, ROW, plain(4)).items()), [((0, 2), 2), ((0, 3), 1), ((0, 4), 2), ((2, 4), 1)])
        self.assertEqual(sure_blocks(base, ROW, plain(4)), [(0, 2), (0, 4)])
        self.assertEqual(grouping_with(base, ROW, plain(4), [(0, 3)]), plain(4))
        self.assertIsNone(grouping_with(base, ROW, plain(4), [(1, 3)]))
        self.assertEqual(many_with(base, ROW, plain(4), [(0, 2)]), 2)
        self.assertIs(is_grouping_with(base, ROW, plain(4), [(0, 2)], plain(4)), True)
        self.assertEqual([goes(base, ROW, plain(4), [2]), goes(base, ROW, plain(4), [1])], [True, False])
        self.assertEqual(grouping_by(base, ROW, plain(4), [2]), HALVES)
        self.assertIs(is_grouping_by(base, ROW, plain(4), [3], plain(4)), True)
        self.assertEqual(cuts_into(base, ROW, plain(4), 2), [[2], [3]])
        self.assertEqual(cuts_into(base, ROW, plain(4), 3), [[1, 2], [2, 3]])
        self.assertEqual([cuts_into(base, ROW, plain(4), 4), fewest_pieces(base, ROW, plain(4), 2)], [[[1, 2, 3]], 2])
        self.assertEqual([evenest_cut(base, ROW, plain(4), 2), evenest_cut(base, ROW, plain(4), 5)], [[2], None])
        self.assertIs(is_evenest_cut(base, ROW, plain(4), 2, [3]), False)


class BlocksTest(unittest.TestCase):
    """Blocks held against ALL groupings of the class."""

    def test_numbers_and_sure_blocks(self):
        for base, row, classes in folds(1, 7, 4):
            for found in classes[::1 + len(classes) // 6]:
                numbers = {}
                for block in sorted(block for each in found for block in each):
                    numbers[block] = numbers.get(block, 0) + 1
                told = block_numbers(base, row, list(found[-1]))
                self.assertEqual(list(told.items()), list(numbers.items()))
                wanted = [block for block in numbers if all(block in each for each in found)]
                self.assertEqual(sure_blocks(base, row, list(found[-1])), wanted)

    def test_groupings_with_blocks(self):
        chance, none, several = Random(3), 0, 0
        for base, row, classes in folds(1, 6, 4):
            blocks = [(first, end) for first in range(len(row)) for end in range(first + 2, len(row) + 1)]
            for found in classes[::1 + len(classes) // 4]:
                lists = [[], list(found[0]), list(found[-1])] + [[block] for block in blocks]
                lists += [sorted(chance.sample(blocks, min(len(blocks), many))) for many in (2, 2, 3, 3)]
                lists += [sorted(chance.sample(found[0], len(found[0]) // 2))]
                for some in lists:
                    if not any(overlap(one, other) for one, other in combinations(some, 2)):
                        wanted = [each for each in found if set(some) <= set(each)]
                        self.check(base, row, list(found[-1]), some, wanted)
                        none += not wanted
                        several += len(wanted) > 1 and len(some) > 1
        self.assertTrue(none > 100 and several > 100, (none, several))

    def check(self, base, row, one, some, wanted):
        self.assertEqual(many_with(base, row, one, some), len(wanted))
        told = grouping_with(base, row, one, some)
        self.assertEqual(told is None, not wanted)
        self.assertIs(is_grouping_with(base, row, one, some, told), bool(wanted))
        if wanted:
            self.assertIn(tuple(told), wanted)
        for each in wanted[:4] + groupings(len(row))[::5]:
            self.assertIs(is_grouping_with(base, row, one, some, list(each)), each in wanted)

    def test_splits_of_one_place_of_which_some_have_the_blocks(self):
        kinds, many = Kinds({(x, y): "a" for x in "ab" for y in "ab"}), 0
        for base in [
            kinds_base(kinds, [("a", "b", "a"), ("b", "a", "a")], "right"), kinds_base(kinds, [("a", "a", "b"), ("a", "b", "a")], "left"),
        ]:
            for row in [list("baba"), list("babaa"), list("abab"), list("aabab"), list("babab")]:
                for found in classes_by_deeds(kinds, base.triples(), row):
                    places = [split[0] for split in splits_of(base, row, list(found[0]))]
                    many += len(set(places)) < len(places)
                    lists = {some for each in found for many_blocks in (1, 2, 3) for some in combinations(each, many_blocks)}
                    for some in sorted(lists):
                        wanted = [each for each in found if set(some) <= set(each)]
                        self.check(base, row, list(found[0]), list(some), wanted)
        self.assertTrue(many > 2)

    def test_no_blocks_and_one_thing(self):
        base = sign_base()
        self.assertEqual(many_with(base, ROW, OTHER, []), class_size(base, ROW, OTHER))
        self.assertIs(is_grouping_with(base, ROW, plain(4), [], HALVES), True)
        self.assertIs(is_grouping_with(base, ROW, plain(4), [], OTHER), False)
        self.assertEqual([block_numbers(base, ["p"], []), sure_blocks(base, ["p"], [])], [{}, []])
        self.assertEqual([grouping_with(base, ["p"], [], []), many_with(base, ["p"], [], [])], [[], 1])
        self.assertIs(is_grouping_with(base, ["p"], [], [], []), True)
        self.assertIs(is_grouping_with(base, ["p"], [], [], None), False)
        two = [(0, 2)]
        self.assertEqual([block_numbers(base, ["p", "n"], two), sure_blocks(base, ["p", "n"], two)], [{(0, 2): 1}, two])
        self.assertEqual([grouping_with(base, ["p", "n"], two, two), many_with(base, ["p", "n"], two, two)], [two, 1])

    def test_blocks_that_are_none(self):
        base = sign_base()
        right = [[], [(0, 2)], [(0, 3)], [(0, 2), (0, 3)], [(0, 3), (1, 3)], [(0, 2), (2, 4)], plain(4), HALVES, [(0, 4)]]
        for blocks in right:
            self.assertEqual(many_with(base, ROW, plain(4), blocks) > 0, grouping_with(base, ROW, plain(4), blocks) is not None)
        wrong = [
            [(0, 2), (1, 3)], [(0, 3), (2, 4)], [(0, 5)], [(2, 5)], [(0, 1)], [(2, 0)], [(2, 4), (0, 2)], [(0, 2), (0, 2)],
            ((0, 2),), [[0, 2]], [(0, 2, 2)], [(False, 2)], [(0, True)], [(True, 3)], [(0, "2")], [None], [0], None, {}, "",
            [(-1, 2)], {(0, 2): 1}, [(0, 2), None], [(0, [2])], True, 3, (), [()], [(0, 2), (0, 3), (2, 4)],
        ]
        strange = [one for one in strange_objects() + strange_folds() if not any(repr(one) == repr(told) for told in right)]
        for blocks in wrong + strange:
            for call in [grouping_with, many_with, lambda *told: is_grouping_with(*told, None)]:
                with self.assertRaises(InvalidBlocks, msg=blocks) as caught:
                    call(base, ROW, plain(4), blocks)
                self.assertIs(caught.exception.value, blocks)
        for call in [grouping_with, many_with]:
            self.assertRaises(InvalidBlocks, call, base, ["p"], [], [(0, 2)])


class CutsTest(unittest.TestCase):
    """Cuts held against ALL cuts and ALL groupings of the class."""

    def test_each_class(self):
        going, not_going = 0, 0
        for base, row, classes in folds(1, 6, 5):
            for found in classes[::1 + len(classes) // 3]:
                wanted = [cut for cut in all_cuts(len(row)) if cut_goes(len(row), cut, found)]
                for cut in all_cuts(len(row)):
                    self.check_cut(base, row, found, cut, cut in wanted)
                    going += cut in wanted
                    not_going += cut not in wanted
                self.check_pieces(base, row, list(found[0]), wanted)
        self.assertTrue(going > 300 and not_going > 300)

    def check_cut(self, base, row, found, cut, wanted):
        one = list(found[-1])
        self.assertIs(goes(base, row, one, cut), wanted)
        told = grouping_by(base, row, one, cut)
        self.assertEqual(told is not None, wanted)
        self.assertIs(is_grouping_by(base, row, one, cut, told), wanted)
        if wanted:
            self.assertIn(tuple(told), found)
        for each in found[:3] + groupings(len(row))[::9]:
            holds = each in found and cut_goes(len(row), cut, [each])
            self.assertIs(is_grouping_by(base, row, one, cut, list(each)), holds)

    def check_pieces(self, base, row, one, wanted):
        size = len(row)
        for pieces in range(1, size + 3):
            some = sorted(cut for cut in wanted if len(cut) + 1 == pieces)
            self.assertEqual(cuts_into(base, row, one, pieces), some)
            least = min([greatest(size, cut) for cut in some], default=None)
            told = evenest_cut(base, row, one, pieces)
            self.assertEqual(told is None, not some)
            self.assertIs(is_evenest_cut(base, row, one, pieces, told), bool(some))
            for cut in all_cuts(size):
                holds = cut in some and greatest(size, cut) == least
                self.assertIs(is_evenest_cut(base, row, one, pieces, cut), holds)
        for most in range(1, size + 2):
            least = min(len(cut) + 1 for cut in wanted if greatest(size, cut) <= most)
            self.assertEqual(fewest_pieces(base, row, one, most), least)

    def test_one_piece_and_more_pieces_than_things(self):
        base = sign_base()
        self.assertEqual([cuts_into(base, ROW, plain(4), 1), cuts_into(base, ROW, plain(4), 5)], [[[]], []])
        self.assertEqual([evenest_cut(base, ROW, plain(4), 1), evenest_cut(base, ROW, plain(4), 60)], [[], None])
        self.assertEqual([cuts_into(base, ROW, plain(4), 10 ** 30), evenest_cut(base, ROW, plain(4), 10 ** 30)], [[], None])
        self.assertEqual([fewest_pieces(base, ROW, plain(4), most) for most in (1, 2, 3, 4, 60)], [4, 2, 2, 1, 1])
        self.assertEqual([goes(base, ROW, plain(4), []), goes(base, ROW, plain(4), [1, 2, 3])], [True, True])
        self.assertEqual([cuts_into(base, ["p"], [], 1), cuts_into(base, ["p"], [], 2)], [[[]], []])
        self.assertEqual([goes(base, ["p"], [], []), grouping_by(base, ["p"], [], []), fewest_pieces(base, ["p"], [], 1)], [True, [], 1])
        self.assertEqual([evenest_cut(base, ["p"], [], 1), evenest_cut(base, ["p"], [], 2)], [[], None])
        self.assertIs(is_grouping_by(base, ["p"], [], [], []), True)
        self.assertIs(is_evenest_cut(base, ["p"], [], 1, []), True)
        self.assertIs(is_evenest_cut(base, ["p"], [], 2, None), False)

    def test_cuts_that_are_none(self):
        base = sign_base()
        wrong = [
            [0], [4], [1, 1], [2, 1], [5], [-1], [True], [1, True], [False], ["1"], [None], [[1]], (1,), {1: 1}, None, "1", 1, True,
            [1, 4], [0, 1], [(1,)], {}, (), "", [1, 2, 3, 4], [1, None], [10 ** 30],
        ]
        strange = [one for one in strange_objects() + strange_folds() if repr(one) not in ("[]", "[1]")]
        for cut in wrong + strange:
            for call in [goes, grouping_by, lambda *told: is_grouping_by(*told, None)]:
                with self.assertRaises(InvalidCut, msg=cut) as caught:
                    call(base, ROW, plain(4), cut)
                self.assertIs(caught.exception.value, cut)
            self.assertIs(is_evenest_cut(base, ROW, plain(4), 2, cut), False)
            self.assertIs(is_evenest_cut(base, ROW, plain(4), 1, cut), False)
        self.assertRaises(InvalidCut, goes, base, ["p"], [], [1])

    def test_counts_that_are_none(self):
        base = sign_base()
        for wrong in wrong_counts():
            for call in [cuts_into, fewest_pieces, evenest_cut, lambda *told: is_evenest_cut(*told, None)]:
                with self.assertRaises(InvalidCount) as caught:
                    call(base, ROW, plain(4), wrong)
                self.assertIs(caught.exception.value, wrong)

    def test_any_object_as_a_grouping(self):
        base = sign_base()
        for wrong in bent_groupings(HALVES) + [[], plain(3), plain(5), OTHER] + strange_objects() + strange_folds():
            self.assertIs(is_grouping_with(base, ROW, plain(4), [(0, 2)], wrong), False)
            self.assertIs(is_grouping_by(base, ROW, plain(4), [2], wrong), False)
        self.assertIs(is_grouping_by(base, ROW, plain(4), [2], HALVES), True)
        self.assertIs(is_grouping_by(base, ROW, plain(4), [2], plain(4)), False)


class ArgumentsTest(unittest.TestCase):
    def test_in_the_order_of_the_parameters(self):
        base = sign_base()
        calls = [block_numbers, sure_blocks]
        for call in [grouping_with, many_with, goes, grouping_by, cuts_into, fewest_pieces, evenest_cut]:
            calls.append(lambda *told, call=call: call(*told, None))
        for call in [is_grouping_with, is_grouping_by, is_evenest_cut]:
            calls.append(lambda *told, call=call: call(*told, None, None))
        for call in calls:
            for told, error, at in [
                ((None, None, None), InvalidBase, 0), ((base, ["x"], None), InvalidRow, 1), ((base, ROW, plain(3)), InvalidGrouping, 2),
                ((base, [], None), InvalidRow, 1), ((base, ("p",), []), InvalidRow, 1), ((base, ROW, tuple(HALVES)), InvalidGrouping, 2),
            ]:
                with self.assertRaises(error) as caught:
                    call(*told)
                self.assertIs(caught.exception.value, told[at])


class SizeTest(unittest.TestCase):
    def test_great_inputs_are_answered(self):
        tail = kinds_base(Kinds({(x, y): y for x in "az" for y in "az"}), [("a", "a", "z")], "right")
        every = kinds_base(signs(), all_triples(signs()), "left")
        for base, row in [(tail, ["a"] * 8 + ["z"]), (every, ["a", "n", "p"] * 3), (every, ["a", "n", "p", "p"] * 3)]:
            size = len(row)
            numbers = block_numbers(base, row, plain(size))
            self.assertEqual(numbers[(0, size)], class_size(base, row, plain(size)))
            for block, many in numbers.items():
                self.assertEqual(many_with(base, row, plain(size), [block]), many)
            self.assertEqual(len(cuts_into(base, row, plain(size), size)), 1)
            for pieces in range(1, size + 1):
                cut = evenest_cut(base, row, plain(size), pieces)
                self.assertIs(is_evenest_cut(base, row, plain(size), pieces, cut), True)
                self.assertIs(goes(base, row, plain(size), cut), True)
        self.assertEqual([len(cuts_into(every, ["a"] * 9, plain(9), 4)), fewest_pieces(every, ["a"] * 9, plain(9), 2)], [56, 5])


if __name__ == "__main__":
    unittest.main()
