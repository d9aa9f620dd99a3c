"""Section 11: depth, edits, room."""

import unittest
from itertools import product
from random import Random

from shiftfolds.edits import (
    are_depth_bounds, are_weight_bounds, best_kept, depth_bounds, depth_of, depths, edit, flattest,
    grouping_of_depths, is_best_kept, is_flattest, least_depth, least_weight, room_of, two_rooms, weight_bounds,
    weight_of,
)
from shiftfolds.equals import value_of
from shiftfolds.errors import InvalidCount, InvalidGrouping, InvalidInputs, InvalidValue, InvalidWeights
from shiftfolds.rights import Base, kinds_base
from shiftfolds.shifts import plain
from shiftfolds.typings import Kinds

from tests.folds import (
    SIGN_TRIPLES, all_triples, bent_groupings, folds, groupings, inside, mid_of, small_typings, some_rows, told_class,
    unsettled_typings,
)
from tests.helpers import signs, stop_typing, strange_folds, strange_objects
from tests.test_prices import bent_bounds, bounds_hold, least_of

ROW, HALVES = ["p", "p", "n", "p"], [(0, 2), (0, 4), (2, 4)]


def sign_base(word="right"):
    return Base(stop_typing(), SIGN_TRIPLES, word)


def depths_by_words(grouping):
    return [len([block for block in grouping if block[0] <= at < block[1]]) for at in range(len(grouping) + 1)]


def weight_by_words(grouping, weights):
    return sum(weight * depth for weight, depth in zip(weights, depths_by_words(grouping)))


def room_by_words(grouping, first=0, end=None):
    end = len(grouping) + 1 if end is None else end
    if end - first == 1:
        return 1
    mid = mid_of(grouping, (first, end))
    one, other = room_by_words(grouping, first, mid), room_by_words(grouping, mid, end)
    return one + 1 if one == other else max(one, other)


def room_by_orders(grouping):
    """So many values as have to be held at once in the best order, by ALL orders of fetching and doing."""
    size = len(grouping) + 1
    best = {}

    def least(held):
        if held == ((0, size),):
            return 1
        if held not in best:
            best[held] = size + 1
            for step in steps(held):
                best[held] = min(best[held], max(len(held), least(step)))
        return best[held]

    def steps(held):
        # what is not held, nor within what is held, is still to be fetched
        for at in range(size):
            if not any(first <= at < end for first, end in held):
                yield tuple(sorted(held + ((at, at + 1),)))
        for first, end in grouping:
            mid = mid_of(grouping, (first, end))
            if (first, mid) in held and (mid, end) in held:
                yield tuple(sorted(set(held) - {(first, mid), (mid, end)} | {(first, end)}))
    return least(())


class ExamplesTest(unittest.TestCase):
    def test_signs(self):
        base = sign_base()
        self.assertEqual([depths(plain(4)), depths(HALVES), depth_of(plain(4))], [[3, 3, 2, 1], [2, 2, 2, 2], 3])
        self.assertEqual([grouping_of_depths([2, 2, 2, 2]), depths([])], [HALVES, [0]])
        inputs = ["q", "qq", "mm", "q"]
        self.assertEqual(edit(base, ROW, plain(4), inputs, 2, "m"), [((0, 3), "o", "q"), ((0, 4), "q", "qq")])
        self.assertEqual(edit(base, ROW, plain(4), inputs, 1, "q"), [((0, 2), "qq", "qq")])
        self.assertEqual(edit(base, ROW, HALVES, inputs, 3, "q"), [])
        self.assertEqual([least_depth(base, ROW, plain(4)), flattest(base, ROW, plain(4))], [2, HALVES])
        self.assertIs(is_flattest(base, ROW, plain(4), plain(4)), False)
        self.assertEqual(weight_of(plain(4), [5, 1, 1, 1]), 21)
        self.assertEqual(least_weight(base, ROW, plain(4), [5, 1, 1, 1]), 16)
        self.assertEqual(best_kept(base, ROW, plain(4), [5, 1, 1, 1]), HALVES)
        self.assertEqual(least_weight(base, ROW, plain(4), [1, 1, 1, 9]), 17)
        self.assertIs(is_best_kept(base, ROW, HALVES, [1, 1, 1, 9], plain(4)), True)
        self.assertEqual(list(depth_bounds(base, ROW, plain(4)).values()), [1, 2, 2, 1])
        bounds = weight_bounds(base, ROW, plain(4), [5, 1, 1, 1])
        self.assertEqual([list(bounds.values()), list(bounds)[2]], [[6, 13, 16, 2], (0, 4, tuple(HALVES))])
        self.assertEqual([room_of(plain(4)), room_of(HALVES), two_rooms(base, ROW, plain(4))], [2, 3, [(2, 3), (3, 2)]])


class DepthsTest(unittest.TestCase):
    def test_there_and_back_for_all_groupings(self):
        for size in range(1, 8):
            seen = set()
            for grouping in groupings(size):
                told = depths(list(grouping))
                self.assertEqual(told, depths_by_words(grouping))
                self.assertEqual(depth_of(list(grouping)), max(told))
                self.assertEqual(grouping_of_depths(told), list(grouping))
                seen.add(tuple(told))
            self.assertEqual(len(seen), len(groupings(size)))

    def test_lists_that_are_no_depths(self):
        for size in range(0, 6):
            right = {tuple(depths_by_words(grouping)) for grouping in groupings(size)} if size else set()
            for told in product(range(size + 1), repeat=size):
                if told not in right:
                    wrong = list(told)
                    with self.assertRaises(InvalidWeights) as caught:
                        grouping_of_depths(wrong)
                    self.assertIs(caught.exception.value, wrong)

    def test_any_object(self):
        for wrong in strange_objects() + strange_folds() + [
            (2, 2, 2, 2), [2, 2, 2, "2"], [2, 2, 2, None], [1, True], [True, 1], [False], [[0]], [2, 2, 2, 2.0], {0: 0}, "0",
            [], [1], [10 ** 30], [3, 3, 2, 1, 0], [0, 0], [-1], [1, -1], [2, 2, 1, 1], [1, 2], [1, 1, 1],
        ]:
            if snapshot_is(wrong, [0]) or snapshot_is(wrong, [1, 1]):
                continue
            with self.assertRaises(InvalidWeights) as caught:
                grouping_of_depths(wrong)
            self.assertIs(caught.exception.value, wrong)

    def test_groupings_that_are_none(self):
        for wrong in bent_groupings(HALVES) + [[(0, 3)], [(0, 2), (0, 4)], [(0, 3), (1, 4)], [(0, 2), (0, 2)]]:
            for call in [depths, depth_of, room_of, lambda x: weight_of(x, None)]:
                if wrong in (HALVES[:0], [(0, 2)]):
                    continue
                with self.assertRaises(InvalidGrouping) as caught:
                    call(wrong)
                self.assertIs(caught.exception.value, wrong)

    def test_long_groupings(self):
        self.assertEqual(depths(plain(60)), [59] + list(range(59, 0, -1)))
        self.assertEqual(grouping_of_depths(depths(plain(60))), plain(60))
        self.assertEqual([depth_of(plain(60)), room_of(plain(60)), weight_of(plain(60), [1] + [0] * 59)], [59, 2, 59])


def snapshot_is(value, wanted):
    return isinstance(value, list) and repr(value) == repr(wanted)


class EditTest(unittest.TestCase):
    def edit_by_words(self, typed, row, grouping, inputs, place, value):
        found, changed = [], list(inputs)
        changed[place] = value
        for first, end in sorted(grouping, key=lambda block: block[1] - block[0]):
            if first <= place < end and inputs[place] != value:
                part = [(one - first, other - first) for one, other in inside(grouping, first, end)]
                told = [value_of(typed, row[first:end], part, each[first:end]) for each in (inputs, changed)]
                found.append(((first, end), *told))
                if told[0] == told[1]:
                    break
        return found

    def test_each_thing_to_each_value_of_its_kind(self):
        chance, kept, none = Random(2), 0, 0
        for at, typed in enumerate(small_typings()[::16] + unsettled_typings()[::16]):
            base = Base(typed, [], ("right", "left")[at % 2])
            for row in some_rows(typed.kinds(), 5, 1, at):
                for grouping in groupings(len(row))[::2]:
                    inputs = [chance.choice(typed.holding()[kind]) for kind in row]
                    for place, kind in enumerate(row):
                        for value in typed.holding()[kind]:
                            told = edit(base, row, list(grouping), inputs, place, value)
                            wanted = self.edit_by_words(typed, row, grouping, inputs, place, value)
                            self.assertEqual(told, wanted)
                            kept += bool(told) and told[-1][1] == told[-1][2] and told[-1][0] != (0, len(row))
                            none += not told
        self.assertTrue(kept and none)

    def test_wrong_arguments(self):
        base, inputs = sign_base(), ["q", "qq", "mm", "q"]
        for wrong in strange_objects() + strange_folds() + [
            tuple(inputs), inputs[:3], inputs + ["q"], ["q", "qq", "q", "q"], ["q", "qq", ["mm"], "q"], None, ["x"] * 4,
        ]:
            with self.assertRaises(InvalidInputs) as caught:
                edit(base, ROW, HALVES, wrong, None, None)
            self.assertIs(caught.exception.value, wrong)
        for wrong in [4, -1, True, False, None, "0", [0], (0,), 10 ** 30]:
            with self.assertRaises(InvalidCount) as caught:
                edit(base, ROW, HALVES, inputs, wrong, None)
            self.assertIs(caught.exception.value, wrong)
        for wrong in ["m", "mm", "x", "", None, 1, ["q"], ("q",), "p", True]:
            with self.assertRaises(InvalidValue) as caught:
                edit(base, ROW, HALVES, inputs, 0, wrong)
            self.assertIs(caught.exception.value, wrong)
        self.assertEqual(edit(base, ["p"], [], ["q"], 0, "o"), [])


class ClassTest(unittest.TestCase):
    """Depths, weights and rooms held against ALL groupings of the class."""

    def test_each_class(self):
        chance, apart = Random(1), 0
        for base, row, classes in folds(1, 6, 2):
            for found in classes[::1 + len(classes) // 6]:
                weights = [chance.randint(0, 5) for _ in row]
                self.check(base, row, found, weights)
                pairs = {(room_by_words(each), max(depths_by_words(each))) for each in found}
                self.assertEqual(two_rooms(base, row, list(found[0])), least_of(pairs))
                apart += len(least_of(pairs)) > 1
        self.assertTrue(apart)

    def check(self, base, row, found, weights):
        one = list(found[-1])
        deep = {each: max(depths_by_words(each)) for each in found}
        heavy = {each: weight_by_words(each, weights) for each in found}
        self.assertEqual(least_depth(base, row, one), min(deep.values()))
        self.assertEqual(deep[tuple(flattest(base, row, one))], min(deep.values()))
        self.assertEqual(least_weight(base, row, one, weights), min(heavy.values()))
        self.assertEqual(heavy[tuple(best_kept(base, row, one, weights))], min(heavy.values()))
        for each in found[:9] + groupings(len(row))[::7]:
            self.assertIs(is_flattest(base, row, one, list(each)), deep.get(each, -1) == min(deep.values()))
            wanted = heavy.get(each, -1) == min(heavy.values())
            self.assertIs(is_best_kept(base, row, one, weights, list(each)), wanted)

    def test_weights_of_groupings(self):
        chance = Random(4)
        for size in range(1, 7):
            for grouping in groupings(size):
                weights = [chance.randint(0, 10 ** 9) for _ in range(size)]
                self.assertEqual(weight_of(list(grouping), weights), weight_by_words(grouping, weights))

    def test_rooms_of_groupings(self):
        for size in range(1, 8):
            for grouping in groupings(size):
                self.assertEqual(room_of(list(grouping)), room_by_words(grouping))
        for size in range(1, 6):
            for grouping in groupings(size):
                self.assertEqual(room_of(list(grouping)), room_by_orders(grouping))

    def test_weights_that_are_none(self):
        base = sign_base()
        for wrong in strange_objects() + strange_folds() + [
            (1, 1, 1, 1), [1, 1, 1], [1] * 5, [1, 1, 1, -1], [1, 1, 1, True], [False, 1, 1, 1], [1, 1, 1, "1"], [1, 1, 1, None],
            [1, 1, 1, [1]], {0: 1, 1: 1, 2: 1, 3: 1}, None, [],
        ]:
            with self.assertRaises(InvalidWeights) as caught:
                weight_of(plain(4), wrong)
            self.assertIs(caught.exception.value, wrong)
            for call in [least_weight, best_kept, weight_bounds]:
                with self.assertRaises(InvalidWeights) as caught:
                    call(base, ROW, plain(4), wrong)
                self.assertIs(caught.exception.value, wrong)
            for call in [is_best_kept, are_weight_bounds]:
                with self.assertRaises(InvalidWeights) as caught:
                    call(base, ROW, plain(4), wrong, None)
                self.assertIs(caught.exception.value, wrong)

    def test_any_object_as_a_grouping(self):
        base, weights = sign_base(), [1, 1, 1, 1]
        self.assertIs(is_flattest(base, ROW, plain(4), HALVES), True)
        self.assertIs(is_best_kept(base, ROW, plain(4), weights, HALVES), True)
        for wrong in bent_groupings(HALVES) + [[], plain(3), plain(5)] + strange_objects() + strange_folds():
            self.assertIs(is_flattest(base, ROW, plain(4), wrong), False)
            self.assertIs(is_best_kept(base, ROW, plain(4), weights, wrong), False)


class BoundsTest(unittest.TestCase):
    def least_by_class(self, base, row, found, value_of_part):
        wanted = {}
        for each in found:
            for first, end in each:
                key = (first, end, told_class(base, row, each, first, end))
                part = [(one - first, other - first) for one, other in inside(each, first, end)]
                told = value_of_part(part, first, end)
                wanted[key] = min(wanted.get(key, told), told)
        return sorted(wanted.items())

    def test_the_greatest_are_the_least(self):
        chance = Random(6)
        for base, row, classes in folds(1, 5, 3):
            for found in classes[::1 + len(classes) // 3]:
                one, weights = list(found[0]), [chance.randint(0, 4) for _ in row]
                deep = depth_bounds(base, row, one)
                wanted = self.least_by_class(base, row, found, lambda part, first, end: max(depths_by_words(part)))
                self.assertEqual(list(deep.items()), wanted)
                heavy = weight_bounds(base, row, one, weights)
                wanted = self.least_by_class(
                    base, row, found, lambda part, first, end: weight_by_words(part, weights[first:end]),
                )
                self.assertEqual(list(heavy.items()), wanted)
                self.check_depth(base, row, found, self.cases(deep, chance))
                self.check_weight(base, row, found, weights, self.cases(heavy, chance))

    def cases(self, told, chance):
        found = [told, {key: 0 for key in told}, dict(reversed(list(told.items())))]
        for key in told:
            found.append({**told, key: told[key] + 1})
            found.append({**told, key: max(0, told[key] - 1)})
        found.append({key: max(0, told[key] + chance.randint(-2, 1)) for key in told})
        return found

    def check_depth(self, base, row, found, cases):
        for value in cases:
            wanted = bounds_hold(base, row, found, value, lambda first, mid, end, one, other: 1 + max(one, other))
            self.assertIs(are_depth_bounds(base, row, list(found[-1]), value), wanted)

    def check_weight(self, base, row, found, weights, cases):
        for value in cases:
            wanted = bounds_hold(
                base, row, found, value, lambda first, mid, end, one, other: sum(weights[first:end]) + one + other,
            )
            self.assertIs(are_weight_bounds(base, row, list(found[-1]), weights, value), wanted)

    def test_any_object(self):
        base, weights = sign_base(), [5, 1, 1, 1]
        deep, heavy = depth_bounds(base, ROW, plain(4)), weight_bounds(base, ROW, plain(4), weights)
        for judge, told in [
            (lambda x: are_depth_bounds(base, ROW, plain(4), x), deep),
            (lambda x: are_weight_bounds(base, ROW, plain(4), weights, x), heavy),
        ]:
            self.assertIs(judge(told), True)
            self.assertIs(judge({key: 0 for key in told}), True)
            for wrong in bent_bounds(told) + strange_objects() + strange_folds():
                self.assertIs(judge(wrong), False, wrong)

    def test_one_thing_and_two(self):
        base = sign_base()
        self.assertEqual([least_depth(base, ["p"], []), flattest(base, ["p"], []), two_rooms(base, ["p"], [])], [0, [], [(1, 0)]])
        self.assertEqual([depth_bounds(base, ["p"], []), weight_bounds(base, ["p"], [], [7])], [{}, {}])
        self.assertEqual([least_weight(base, ["p"], [], [7]), best_kept(base, ["p"], [], [7]), room_of([])], [0, [], 1])
        self.assertIs(are_depth_bounds(base, ["p"], [], {}), True)
        self.assertIs(are_depth_bounds(base, ["p"], [], None), False)
        two = [(0, 2)]
        self.assertEqual(depth_bounds(base, ["p", "n"], two), {(0, 2, ((0, 2),)): 1})
        self.assertEqual([weight_of(two, [3, 4]), room_of(two), two_rooms(base, ["p", "n"], two)], [7, 2, [(2, 1)]])


class SizeTest(unittest.TestCase):
    def test_great_inputs_are_answered(self):
        tail = kinds_base(Kinds({(x, y): y for x in "az" for y in "az"}), [("a", "a", "z")], "right")
        every = kinds_base(signs(), all_triples(signs()), "left")
        for base, row in [(tail, ["a"] * 8 + ["z"]), (every, ["a", "n", "p"] * 3), (every, ["a", "n", "p", "p"] * 3)]:
            size, weights = len(row), [10 ** 9 - at for at in range(len(row))]
            for bounds, judge in [
                (depth_bounds(base, row, plain(size)), lambda x: are_depth_bounds(base, row, plain(size), x)),
                (weight_bounds(base, row, plain(size), weights), lambda x: are_weight_bounds(base, row, plain(size), weights, x)),
            ]:
                self.assertIs(judge(bounds), True)
            self.assertEqual(least_depth(base, row, plain(size)), 4)
            kept = best_kept(base, row, plain(size), weights)
            self.assertIs(is_best_kept(base, row, plain(size), weights, kept), True)
            self.assertEqual(two_rooms(base, row, plain(size))[0][0], 2)


if __name__ == "__main__":
    unittest.main()
