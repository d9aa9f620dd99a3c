"""Section 13: frontiers."""

import unittest
from random import Random

from shiftfolds.classes import coming
from shiftfolds.errors import InvalidBase, InvalidGrouping, InvalidHands, InvalidRow
from shiftfolds.frontiers import (
    are_frontier_groupings, are_fronts, best_for_all, class_steps, fastest, frontier, frontier_groupings, fronts_of,
    is_best_for_all, is_fastest, profile, steps_of,
)
from shiftfolds.rights import kinds_base
from shiftfolds.shifts import plain
from shiftfolds.typings import Kinds

from tests.folds import (
    all_triples, bent_groupings, class_by_deeds, folds, groupings, inside, mid_of, some_bases, told_class,
)
from tests.helpers import signs, strange_folds, strange_objects
from tests.test_hands import depth_by_words, least_steps
from tests.test_prices import HALVES, even_base

ROW = ["o"] * 4
OTHER = [(0, 4), (1, 4), (2, 4)]


def profile_by_words(grouping):
    deep = [depth_by_words(grouping, block) for block in grouping]
    found = []
    while any(depth >= len(found) for depth in deep):
        found.append(len([depth for depth in deep if depth >= len(found)]))
    return found


def steps_by_words(numbers, hands):
    return max([at + -(-many // hands) for at, many in enumerate(numbers)], default=0)


def nowhere_greater(one, other):
    longest = max(len(one), len(other))
    one, other = [list(told) + [0] * (longest - len(told)) for told in (one, other)]
    return all(first <= second for first, second in zip(one, other))


def frontier_by_words(profiles):
    profiles = sorted(set(map(tuple, profiles)))
    return [
        list(one) for one in profiles
        if not any(other != one and nowhere_greater(other, one) for other in profiles)
    ]


def all_splits(base, row, found):
    """The dictionary from ALL that comes in a class, told by its groupings, to ALL tuples of both halves' keys."""
    splits = {}
    for grouping in found:
        for first, end in grouping:
            mid = mid_of(grouping, (first, end))
            parts = [
                (one, other, told_class(base, row, grouping, one, other)) if other - one > 1 else None
                for one, other in ((first, mid), (mid, end))
            ]
            key = (first, end, told_class(base, row, grouping, first, end))
            splits.setdefault(key, set()).add(tuple(parts))
    return splits


def fronts_hold(splits, value):
    """Whether lists are fronts, by ALL splits and ALL choices."""
    if sorted(value) != sorted(splits) or not all(value.values()):
        return False
    for key, halves in splits.items():
        for left, right in halves:
            for one in value[left] if left else [[]]:
                for other in value[right] if right else [[]]:
                    longest = max(len(one), len(other))
                    added = [
                        (one[at] if at < len(one) else 0) + (other[at] if at < len(other) else 0) for at in range(longest)
                    ]
                    if not any(nowhere_greater(told, [key[1] - key[0] - 1] + added) for told in value[key]):
                        return False
    return True


class ExamplesTest(unittest.TestCase):
    def test_even(self):
        base = even_base()
        self.assertEqual([profile(plain(4)), profile(HALVES), profile([])], [[3, 2, 1], [3, 2], []])
        self.assertEqual([steps_of(plain(4), 1), steps_of(plain(4), 2), steps_of(HALVES, 2), steps_of([], 3)], [3, 3, 2, 0])
        self.assertEqual(frontier(base, ROW, plain(4)), [[3, 2]])
        self.assertEqual([class_steps(base, ROW, plain(4), 1), class_steps(base, ROW, plain(4), 2)], [3, 2])
        self.assertEqual(best_for_all(base, ROW, plain(4)), HALVES)
        self.assertIs(is_best_for_all(base, ROW, plain(4), plain(4)), False)
        self.assertIs(is_fastest(base, ROW, plain(4), 1, plain(4)), True)
        fronts = {
            (0, 2, ((0, 2),)): [[1]], (0, 3, ((0, 2), (0, 3))): [[2, 1]], (0, 4, tuple(HALVES)): [[3, 2]],
            (2, 4, ((2, 4),)): [[1]],
        }
        self.assertEqual(list(fronts_of(base, ROW, plain(4)).items()), list(fronts.items()))
        self.assertIs(are_frontier_groupings(base, ROW, plain(4), [HALVES]), True)


class ProfileTest(unittest.TestCase):
    def test_by_all_depths(self):
        for size in range(1, 8):
            for grouping in groupings(size):
                self.assertEqual(profile(list(grouping)), profile_by_words(grouping))

    def test_the_least_number_of_all_runs(self):
        for size in range(1, 8):
            for grouping in groupings(size)[::1 + size // 6]:
                for hands in (1, 2, 3, 7):
                    self.assertEqual(steps_of(list(grouping), hands), least_steps(grouping, hands))
                self.assertEqual(steps_of(list(grouping), 10 ** 30), len(profile_by_words(grouping)))

    def test_wrong_arguments(self):
        for wrong in bent_groupings(HALVES) + [[(0, 3)], [(0, 2), (1, 3)], None, (0, 2)]:
            for call in [profile, lambda x: steps_of(x, None)]:
                with self.assertRaises(InvalidGrouping) as caught:
                    call(wrong)
                self.assertIs(caught.exception.value, wrong)
        for wrong in [0, -1, True, False, "1", None, [1], (1,), {}]:
            with self.assertRaises(InvalidHands) as caught:
                steps_of(HALVES, wrong)
            self.assertIs(caught.exception.value, wrong)


class ClassTest(unittest.TestCase):
    """Frontiers and steps held against ALL groupings of the class."""

    def test_each_class(self):
        several = 0
        for base, row, classes in folds(1, 7, 5):
            for found in classes[::1 + len(classes) // 5]:
                one, profiles = list(found[-1]), {each: profile_by_words(each) for each in found}
                wanted = frontier_by_words(profiles.values())
                self.assertEqual(frontier(base, row, one), wanted)
                told = frontier_groupings(base, row, one)
                self.assertEqual([profiles[tuple(each)] for each in told], wanted)
                self.check_lists(base, row, one, profiles, wanted, told)
                self.check_steps(base, row, one, profiles)
                several += len(wanted) > 1 or len(set(map(tuple, profiles.values()))) > 2
        self.assertTrue(several > 20)

    def check_lists(self, base, row, one, profiles, wanted, told):
        self.assertIs(are_frontier_groupings(base, row, one, told), True)
        for value in [told + [told[0]], told[1:], told[::-1], tuple(told), [tuple(each) for each in told], None, told[0]]:
            self.assertIs(are_frontier_groupings(base, row, one, value), len(told) == 1 and value == told)
        for each in list(profiles)[:8] + groupings(len(row))[::9]:
            wished = [profiles[each]] == wanted if each in profiles else False
            self.assertIs(are_frontier_groupings(base, row, one, [list(each)]), wished)

    def check_steps(self, base, row, one, profiles):
        best = set(profiles)
        for hands in (1, 2, 3, 4, 7):
            steps = {each: steps_by_words(profiles[each], hands) for each in profiles}
            least = min(steps.values())
            self.assertEqual(class_steps(base, row, one, hands), least)
            self.assertEqual(steps[tuple(fastest(base, row, one, hands))], least)
            for each in list(profiles)[:6] + groupings(len(row))[::11]:
                self.assertIs(is_fastest(base, row, one, hands, list(each)), steps.get(each, -1) == least)
            best &= {each for each in profiles if steps[each] == least}
        self.assertIn(tuple(best_for_all(base, row, one)), best)
        for each in list(profiles)[:9] + groupings(len(row))[::11]:
            wanted = each in profiles and self.is_best(profiles, each, len(row))
            self.assertIs(is_best_for_all(base, row, one, list(each)), wanted)

    def is_best(self, profiles, each, size):
        return all(
            steps_by_words(profiles[each], hands) == min(steps_by_words(told, hands) for told in profiles.values())
            for hands in range(1, size + 2)
        )

    def test_not_each_flattest_one_is_best_for_all(self):
        # nine things in depth four: one thing beside eight needs a step more on three hands
        base, row = kinds_base(signs(), all_triples(signs()), "right"), ["a"] * 9
        lone = sorted([(0, 9), (1, 9), (1, 5), (5, 9), (1, 3), (3, 5), (5, 7), (7, 9)])
        even = sorted([(0, 9), (0, 5), (5, 9), (0, 3), (3, 5), (0, 2), (5, 7), (7, 9)])
        self.assertEqual([profile(lone), profile(even)], [[8, 7, 6, 4], [8, 7, 5, 1]])
        self.assertEqual([len(profile(told)) for told in (lone, even, best_for_all(base, row, plain(9)))], [4, 4, 4])
        self.assertEqual([steps_of(lone, 3), steps_of(even, 3)], [5, 4])
        self.assertIs(is_best_for_all(base, row, plain(9), lone), False)
        self.assertIs(is_best_for_all(base, row, plain(9), even), True)
        self.assertEqual([is_fastest(base, row, plain(9), hands, lone) for hands in (1, 2, 3, 4)], [True, True, False, True])

    def test_a_frontier_of_two_profiles(self):
        kinds = Kinds({(x, y): x for x in "ab" for y in "ab"})
        lot = [(x, y, z) for x in "ab" for y in "ab" for z in "ab" if (x, y, z) not in [("a", "a", "b"), ("b", "a", "b")]]
        base, row = kinds_base(kinds, lot, "right"), ["b", "a", "b", "a", "b", "a", "b"]
        one = [(0, 7), (1, 4), (1, 7), (2, 4), (4, 7), (5, 7)]
        profiles = {each: profile_by_words(each) for each in class_by_deeds(kinds, lot, row, one)}
        wanted = [[6, 5, 3, 2, 1], [6, 5, 4, 2]]
        self.assertEqual(frontier_by_words(profiles.values()), wanted)
        self.assertEqual(frontier(base, row, one), wanted)
        told = frontier_groupings(base, row, one)
        self.assertEqual([profiles[tuple(each)] for each in told], wanted)
        self.check_lists(base, row, one, profiles, wanted, told)
        self.check_steps(base, row, one, profiles)
        fronts, top = fronts_of(base, row, one), max(fronts_of(base, row, one), key=lambda key: key[1] - key[0])
        self.assertEqual(fronts[top], wanted)
        self.assertIs(are_fronts(base, row, one, fronts), True)
        self.assertIs(are_fronts(base, row, one, {**fronts, top: wanted[::-1]}), True)
        for lists in [wanted[:1], wanted[1:], [wanted[0], [6, 5, 4, 3]]]:
            self.assertIs(are_fronts(base, row, one, {**fronts, top: lists}), False)
        for value in [told[:1], told[1:], told[::-1], told + told]:
            self.assertIs(are_frontier_groupings(base, row, one, value), False)

    def test_any_object_as_a_grouping(self):
        base = even_base()
        self.assertIs(is_fastest(base, ROW, plain(4), 2, HALVES), True)
        self.assertIs(is_best_for_all(base, ROW, plain(4), HALVES), True)
        for wrong in bent_groupings(HALVES) + [[], plain(3), plain(5), OTHER] + strange_objects() + strange_folds():
            self.assertIs(is_fastest(base, ROW, plain(4), 2, wrong), False)
            self.assertIs(is_best_for_all(base, ROW, plain(4), wrong), False)
            self.assertIs(are_frontier_groupings(base, ROW, plain(4), [wrong]), False)
            self.assertIs(are_frontier_groupings(base, ROW, plain(4), wrong), False)


class FrontsTest(unittest.TestCase):
    def test_the_frontiers_of_each_class(self):
        judged = {True: 0, False: 0}
        for at, (base, row, classes) in enumerate(folds(1, 6, 4)):
            for found in classes[::1 + len(classes) // 3]:
                one, told = list(found[0]), fronts_of(base, row, list(found[0]))
                profiles = {}
                for each in found:
                    for first, end in each:
                        key = (first, end, told_class(base, row, each, first, end))
                        profiles.setdefault(key, []).append(profile_by_words(inside(each, first, end)))
                wanted = [(key, frontier_by_words(profiles[key])) for key in sorted(profiles)]
                self.assertEqual(list(told.items()), wanted)
                self.assertIs(are_fronts(base, row, one, told), True)
                splits = all_splits(base, row, found)
                for value in self.bent(told, Random(at)):
                    holds = fronts_hold(splits, value)
                    judged[holds] += 1
                    self.assertIs(are_fronts(base, row, one, value), holds)
        self.assertTrue(min(judged.values()) > 100, judged)

    def bent(self, told, chance):
        """Fronts with one number more or less, a number, a list or a class more or less, in another order."""
        found = [dict(reversed(list(told.items()))), {key: told[key][::-1] for key in told}, {key: [[1]] for key in told}]
        for key in told:
            at, numbers = chance.randrange(len(told[key])), list(chance.choice(told[key]))
            place = chance.randrange(len(numbers))
            rest = told[key][:at] + told[key][at + 1:]
            more, less = list(numbers), list(numbers)
            more[place] += 1
            less[place] = max(1, less[place] - 1)
            for changed in [more, less, numbers[:-1] or [1], numbers + [1], [1] + numbers]:
                found.append({**told, key: rest + [changed]})
            found.append({**told, key: told[key] + [[9, 9]]})
            found.append({**told, key: rest or [[1]]})
            found.append({**told, key: told[key] + told[key]})
            found.append({other: told[other] for other in told if other != key})
        return found

    def test_a_smaller_list_holds_and_makes_less_of_the_others(self):
        base = even_base()
        told = fronts_of(base, ROW, plain(4))
        top, inner = (0, 4, tuple(HALVES)), (0, 3, ((0, 2), (0, 3)))
        for lists, holds in [
            ([[3, 2]], True), ([[3]], True), ([[1, 1]], True), ([[3, 2], [9]], True), ([[3, 3]], False), ([[4, 2]], False),
            ([[3, 2, 1]], False), ([[9], [3, 2]], True), ([[2, 2]], True),
        ]:
            self.assertIs(are_fronts(base, ROW, plain(4), {**told, top: lists}), holds)
        self.assertIs(are_fronts(base, ROW, plain(4), {**told, inner: [[1]]}), False)
        self.assertIs(are_fronts(base, ROW, plain(4), {**told, inner: [[1]], top: [[2]]}), True)

    def test_any_object(self):
        base = even_base()
        told = fronts_of(base, ROW, plain(4))
        top = (0, 4, tuple(HALVES))
        self.assertIs(are_fronts(base, ROW, plain(4), told), True)
        wrong = strange_objects() + strange_folds() + [list(told.items()), list(told), {**told, "x": [[1]]}]
        wrong += [{**told, (0, 9, ((0, 9),)): [[1]]}, {**told, (0, 4, tuple(OTHER)): [[3]]}, {**told, (0, 1, ()): [[1]]}]
        for lists in [
            [], [[]], [()], ([3, 2],), [(3, 2)], [[3, 0]], [[3, True]], [[True]], [[-1]], [["3"]], [[None]], [3, 2], None, "",
            {0: [3]}, [[3, 2], []], [[3, 2], None], [[[3]]], [[3, 2], [False]],
        ]:
            wrong.append({**told, top: lists})
        for key in [(False, 4, top[2]), (0, 4, ((False, 2), (0, 4), (2, 4))), (0, 4), [0, 4], (0, 4, ()), (0, 4, list(HALVES))]:
            if isinstance(key, tuple) and not (len(key) == 3 and isinstance(key[2], list)):
                rest = {other: told[other] for other in told if other != top}
                wrong.append({**rest, key: [[3, 2]]})
        for value in wrong:
            self.assertIs(are_fronts(base, ROW, plain(4), value), False, value)

    def test_one_thing_and_two(self):
        base = even_base()
        self.assertEqual([frontier(base, ["o"], []), frontier_groupings(base, ["o"], [])], [[[]], [[]]])
        self.assertEqual([fronts_of(base, ["o"], []), best_for_all(base, ["o"], [])], [{}, []])
        self.assertEqual([class_steps(base, ["o"], [], 1), fastest(base, ["o"], [], 9)], [0, []])
        self.assertIs(are_frontier_groupings(base, ["o"], [], [[]]), True)
        self.assertIs(are_frontier_groupings(base, ["o"], [], []), False)
        self.assertIs(are_fronts(base, ["o"], [], {}), True)
        self.assertIs(is_best_for_all(base, ["o"], [], []), True)
        self.assertIs(is_fastest(base, ["o"], [], 1, []), True)
        for judge in [are_frontier_groupings, are_fronts, is_best_for_all]:
            self.assertIs(judge(base, ["o"], [], None), False)
        two = [(0, 2)]
        self.assertEqual([frontier(base, ["o", "e"], two), frontier_groupings(base, ["o", "e"], two)], [[[1]], [two]])
        self.assertEqual(fronts_of(base, ["o", "e"], two), {(0, 2, ((0, 2),)): [[1]]})
        self.assertEqual([class_steps(base, ["o", "e"], two, 1), best_for_all(base, ["o", "e"], two)], [1, two])


class ArgumentsTest(unittest.TestCase):
    def test_in_the_order_of_the_parameters(self):
        base = even_base()
        calls = [
            lambda *told: class_steps(*told, None), lambda *told: fastest(*told, None), frontier, frontier_groupings,
            lambda *told: is_fastest(*told, None, None), fronts_of, lambda *told: are_fronts(*told, None), best_for_all,
            lambda *told: are_frontier_groupings(*told, None), lambda *told: is_best_for_all(*told, None),
        ]
        for call in calls:
            for told, error, at in [
                ((None, None, None), InvalidBase, 0), ((base, ["x"], None), InvalidRow, 1), ((base, ROW, OTHER[:2]), InvalidGrouping, 2),
                ((base, [], None), InvalidRow, 1), ((base, ("o",), []), InvalidRow, 1), ((base, ROW, tuple(HALVES)), InvalidGrouping, 2),
            ]:
                with self.assertRaises(error) as caught:
                    call(*told)
                self.assertIs(caught.exception.value, told[at])
        for wrong in [0, -1, True, False, "1", None, [1], (1,), {}]:
            for call in [class_steps, fastest, lambda *told: is_fastest(*told, None)]:
                with self.assertRaises(InvalidHands) as caught:
                    call(base, ROW, HALVES, wrong)
                self.assertIs(caught.exception.value, wrong)


class SizeTest(unittest.TestCase):
    def test_great_inputs_are_answered(self):
        tail = kinds_base(Kinds({(x, y): y for x in "az" for y in "az"}), [("a", "a", "z")], "right")
        every = kinds_base(signs(), all_triples(signs()), "left")
        for base, row in [(tail, ["a"] * 8 + ["z"]), (every, ["a", "n", "p"] * 3), (every, ["a", "n", "p", "p"] * 3)]:
            size = len(row)
            fronts = fronts_of(base, row, plain(size))
            self.assertEqual(list(fronts), coming(base, row, plain(size)))
            self.assertIs(are_fronts(base, row, plain(size), fronts), True)
            more = {key: lists + [lists[0]] for key, lists in fronts.items()}
            self.assertIs(are_fronts(base, row, plain(size), more), True)
            told = frontier_groupings(base, row, plain(size))
            self.assertIs(are_frontier_groupings(base, row, plain(size), told), True)
            for hands in range(1, 10):
                found = fastest(base, row, plain(size), hands)
                self.assertIs(is_fastest(base, row, plain(size), hands, found), True)
                self.assertEqual(steps_of(found, hands), class_steps(base, row, plain(size), hands))
            self.assertIs(is_best_for_all(base, row, plain(size), best_for_all(base, row, plain(size))), True)

    def test_bases_of_both_words_at_nine_things(self):
        for at, base in enumerate(some_bases()[::6]):
            names = base.typed().kinds().names()
            row = [names[(at + place * place) % len(names)] for place in range(9)]
            found = best_for_all(base, row, plain(9))
            self.assertIs(is_best_for_all(base, row, plain(9), found), True)
            self.assertIs(are_fronts(base, row, plain(9), fronts_of(base, row, plain(9))), True)


if __name__ == "__main__":
    unittest.main()
