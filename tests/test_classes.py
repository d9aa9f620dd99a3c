"""Section 9: classes and splits."""

import unittest
from random import Random

from shiftfolds.classes import (
    are_joined, class_at, class_number, class_of, class_place, class_size, class_with, comes, coming, last_of,
    lone_stretches, one_class, size_by_splits, splits_of,
)
from shiftfolds.errors import InvalidCount, InvalidGrouping
from shiftfolds.rights import kinds_base
from shiftfolds.shifts import plain
from shiftfolds.typings import Kinds

from tests.folds import (
    all_triples, bent_groupings, class_by_deeds, classes_by_deeds, deeds, folds, groupings, inside, mid_of,
    some_bases, some_rows, told_class,
)
from tests.helpers import signs, strange_objects

ROW = ["p", "p", "n", "p"]


def sign_base(word="right"):
    return kinds_base(signs(), [(x, y, x) for x in "np" for y in "anp"], word)


def right_tail():
    """A base under which whatever ends with the kind z is one class, and all else is apart."""
    kinds = Kinds({(x, y): y for x in "az" for y in "az"})
    return kinds_base(kinds, [("a", "a", "z")], "right")


class ExamplesTest(unittest.TestCase):
    def test_signs(self):
        base = sign_base()
        self.assertEqual(last_of(base, ROW, plain(4)), [(0, 2), (0, 4), (2, 4)])
        self.assertEqual(class_of(base, ROW, plain(4)), ((0, 2), (0, 4), (2, 4)))
        self.assertEqual([class_size(base, ROW, plain(4)), class_number(base, ROW), one_class(base, ROW)], [2, 2, False])
        self.assertEqual(splits_of(base, ROW, plain(4)), [(2, ((0, 2),), ((2, 4),)), (3, ((0, 2), (0, 3)), ())])
        self.assertEqual(class_at(base, ROW, plain(4), 0), [(0, 2), (0, 4), (2, 4)])
        self.assertEqual(class_at(base, ROW, plain(4), 1), plain(4))
        self.assertEqual(class_place(base, ROW, plain(4)), 1)
        self.assertIs(are_joined(base, ROW, plain(4), [(0, 3), (0, 4), (1, 3)]), False)
        self.assertEqual(coming(base, ROW, plain(4)), [
            (0, 2, ((0, 2),)), (0, 3, ((0, 2), (0, 3))), (0, 4, ((0, 2), (0, 4), (2, 4))), (2, 4, ((2, 4),)),
        ])
        self.assertIs(comes(base, ROW, plain(4), (1, 4, ((1, 4), (2, 4)))), False)
        self.assertEqual(class_with(base, ROW, [(0, 2)], [(0, 2)]), ((0, 2), (0, 4), (2, 4)))
        self.assertEqual(class_with(base, ROW, [], [(0, 2), (0, 3)]), ((0, 4), (1, 4), (2, 4)))
        self.assertEqual(class_size(base, ROW, [(0, 4), (1, 4), (2, 4)]), 3)
        self.assertEqual(lone_stretches(base, ROW), [(0, 2), (0, 3), (1, 3), (2, 4)])


class AllGroupingsTest(unittest.TestCase):
    """What is told of each class, held against ALL groupings that deeds lead to."""

    def test_each_class(self):
        many, words, several = 0, set(), 0
        for base, row, classes in folds(1, 6):
            for found in classes:
                self.check_class(base, row, classes, found)
                several += 1 < len(found) < len(groupings(len(row)))
            self.check_row(base, row, classes)
            many += len(classes)
            words.add(base.word())
        self.assertTrue(many > 500 and several > 50 and len(words) == 2)

    def check_class(self, base, row, classes, found):
        kinds, size = base.typed().kinds(), len(row)
        one = list(found[len(found) // 2])
        last = [
            each for each in found
            if not [deed for deed in deeds(kinds, set(base.triples()), row, each) if deed[0] == base.word()]
        ]
        self.assertEqual([last_of(base, row, one)], [list(each) for each in last])
        self.assertEqual(class_of(base, row, one), last[0])
        self.assertEqual(class_size(base, row, one), len(found))
        for other in classes[::9] + [found]:
            self.assertIs(are_joined(base, row, one, list(other[-1])), other == found)
        told = {}
        for each in found:
            told.setdefault(self.split_of(base, row, each), []).append(each)
        self.assertEqual(splits_of(base, row, one), sorted(told) if size > 1 else [])
        sizes = size_by_splits(base, row, one)
        self.assertEqual(list(sizes.items()), [(split, len(told[split])) for split in sorted(told)] if size > 1 else [])
        blocks = {
            (first, end, told_class(base, row, each, first, end)) for each in found[:12] for first, end in each
        }
        if len(found) <= 12:
            self.assertEqual(coming(base, row, one), sorted(blocks))
        for value in sorted(blocks):
            self.assertIs(comes(base, row, one, value), True)

    def split_of(self, base, row, grouping):
        if len(row) == 1:
            return ()
        mid = mid_of(grouping, (0, len(row)))
        return (mid,) + tuple(
            told_class(base, row, grouping, first, end) if end - first > 1 else ()
            for first, end in ((0, mid), (mid, len(row)))
        )

    def check_row(self, base, row, classes):
        size, kinds = len(row), base.typed().kinds()
        self.assertEqual(class_number(base, row), len(classes))
        self.assertIs(one_class(base, row), len(classes) == 1)
        lone = []
        for first in range(size):
            for end in range(first + 2, size + 1):
                part = classes_by_deeds(kinds, base.triples(), row[first:end])
                if any(len(found) == 1 for found in part):
                    lone.append((first, end))
        self.assertEqual(lone_stretches(base, row), lone)


class OrderTest(unittest.TestCase):
    """Positions there and back, for ALL positions."""

    def test_all_positions(self):
        for base, row, classes in folds(1, 6, 2):
            for found in classes:
                one = list(found[0])
                listed = [class_at(base, row, one, number) for number in range(len(found))]
                self.assertEqual(sorted(tuple(each) for each in listed), found)
                for number, each in enumerate(listed):
                    self.assertEqual(class_place(base, row, each), number)
                for wrong in (len(found), len(found) + 1, -1, True, None, "0", 10 ** 30, [0]):
                    with self.assertRaises(InvalidCount) as caught:
                        class_at(base, row, one, wrong)
                    self.assertIs(caught.exception.value, wrong)

    def test_by_splits_then_left_parts_then_right_ones(self):
        for base, row, classes in folds(1, 5, 2):
            kinds = base.typed().kinds()
            for found in classes:
                if len(row) > 1:
                    wanted = sorted(found, key=lambda each: self.key(base, kinds, row, each, 0, len(row)))
                    listed = [class_at(base, row, list(found[0]), number) for number in range(len(found))]
                    self.assertEqual([tuple(each) for each in listed], wanted)

    def key(self, base, kinds, row, grouping, first, end):
        """The split of what a grouping has within a stretch, then the keys of both parts."""
        if end - first == 1:
            return ()
        mid = mid_of(grouping, (first, end))
        told = tuple(
            told_class(base, row, grouping, *part) if part[1] - part[0] > 1 else () for part in ((first, mid), (mid, end))
        )
        return (
            (mid,) + told, self.key(base, kinds, row, grouping, first, mid), self.key(base, kinds, row, grouping, mid, end),
        )

    def test_false_is_no_position(self):
        self.assertEqual(class_at(sign_base(), ROW, plain(4), 0), [(0, 2), (0, 4), (2, 4)])
        self.assertRaises(InvalidCount, class_at, sign_base(), ROW, plain(4), False)


class WithTest(unittest.TestCase):
    def test_all_two_groupings_side_by_side(self):
        for base in some_bases()[::4]:
            kinds = base.typed().kinds()
            for row in some_rows(kinds, 5, 1, 3)[1:]:
                for mid in range(1, len(row)):
                    for one in groupings(mid):
                        for other in groupings(len(row) - mid):
                            moved = tuple((first + mid, end + mid) for first, end in other)
                            whole = sorted(one + moved + ((0, len(row)),))
                            told = class_with(base, row, list(one), list(other))
                            self.assertEqual(told, told_class(base, row, whole, 0, len(row)))

    def test_groupings_that_do_not_fit(self):
        base = sign_base()
        for wrong in bent_groupings([(0, 2), (0, 4), (2, 4)]) + [plain(4), plain(5), [(0, 3), (0, 4)], [(1, 3)]]:
            with self.assertRaises(InvalidGrouping) as caught:
                class_with(base, ROW, wrong, 1)
            self.assertIs(caught.exception.value, wrong)
        for one, wrong in [([], []), ([], [(0, 2)]), ([], plain(4)), ([(0, 2)], []), ([(0, 2)], plain(3)), (plain(3), [(0, 2)])]:
            with self.assertRaises(InvalidGrouping) as caught:
                class_with(base, ROW, one, wrong)
            self.assertIs(caught.exception.value, wrong)
        for wrong in bent_groupings(plain(4)):
            with self.assertRaises(InvalidGrouping) as caught:
                class_with(base, ROW + ["p"], [], wrong)
            self.assertIs(caught.exception.value, wrong)
        one = []
        with self.assertRaises(InvalidGrouping) as caught:
            class_with(base, ["p"], one, [])
        self.assertIs(caught.exception.value, one)


class ComesTest(unittest.TestCase):
    def test_classes_of_all_groupings_of_each_stretch(self):
        for base, row, classes in folds(1, 4, 2):
            every = {
                (first, end, told_class(base, row, each, first, end)) for found in classes for each in found
                for first, end in each
            }
            for found in classes:
                told = coming(base, row, list(found[0]))
                for value in every:
                    self.assertIs(comes(base, row, list(found[-1]), value), value in told)

    def test_any_object(self):
        base = sign_base()
        right = (0, 3, ((0, 2), (0, 3)))
        self.assertIs(comes(base, ROW, plain(4), right), True)
        for wrong in strange_objects() + [
            list(right), (False, 3, right[2]), (0, 3, list(right[2])), (0, 3, ((0, 2), [0, 3])), (0, 3, ((False, 2), (0, 3))),
            (0, 3, ()), (0, 3), right + (0,), (0, 1, ()), (2, 3, ()), (0, 3, ((0, 3), (0, 2))), (0, 3, ((0, 2),)), (0, "3", ()),
            (0, 3, None), (0, 3, ((0, 2), None)), (0, 3, ((0, 2), (0, 3, 3))), (1, 4, ((0, 2), (0, 3))), [right], (right,),
            (0, 3, ((0, 3), (1, 3))), (0, 5, right[2]), (None, None, None), (0, 3, "x"), (0, [3], right[2]),
        ]:
            self.assertIs(comes(base, ROW, plain(4), wrong), False)
        self.assertIs(comes(base, ["p"], [], (0, 1, ())), False)
        self.assertIs(comes(base, ["p", "p"], [(0, 2)], (0, 2, ((0, 2),))), True)
        self.assertIs(comes(base, ["p", "p"], [(0, 2)], (0, 2, ((False, 2),))), False)


class EdgesTest(unittest.TestCase):
    def test_one_thing(self):
        for base in some_bases():
            row = base.typed().kinds().names()[:1]
            self.assertEqual([last_of(base, row, []), class_of(base, row, [])], [[], ()])
            self.assertEqual([splits_of(base, row, []), size_by_splits(base, row, []), coming(base, row, [])], [[], {}, []])
            self.assertEqual([class_size(base, row, []), class_number(base, row), class_place(base, row, [])], [1, 1, 0])
            self.assertEqual([class_at(base, row, [], 0), lone_stretches(base, row), one_class(base, row)], [[], [], True])

    def test_two_things(self):
        for base in some_bases():
            row = base.typed().kinds().names()[:1] * 2
            self.assertEqual(splits_of(base, row, [(0, 2)]), [(1, (), ())])
            self.assertEqual(size_by_splits(base, row, [(0, 2)]), {(1, (), ()): 1})
            self.assertEqual(coming(base, row, [(0, 2)]), [(0, 2, ((0, 2),))])
            self.assertEqual(lone_stretches(base, row), [(0, 2)])

    def test_functions_ask_for_groupings(self):
        base = sign_base()
        calls = [
            last_of, class_of, splits_of, class_size, size_by_splits, class_place, coming,
            lambda *told: comes(*told, None), lambda *told: class_at(*told, None), lambda *told: are_joined(*told, 1),
            lambda base, row, wrong: are_joined(base, row, plain(4), wrong),
        ]
        for wrong in bent_groupings([(0, 2), (0, 4), (2, 4)]) + [[], plain(3), plain(5)]:
            for call in calls:
                with self.assertRaises(InvalidGrouping) as caught:
                    call(base, ROW, wrong)
                self.assertIs(caught.exception.value, wrong)


class SizeTest(unittest.TestCase):
    def test_great_inputs_are_answered(self):
        for base in [sign_base(), sign_base("left"), kinds_base(signs(), all_triples(signs()), "left")]:
            chance = Random(3)
            for size in (9, 11):
                row = [chance.choice("anp") for _ in range(size)]
                many = class_size(base, row, plain(size))
                self.assertEqual(sum(size_by_splits(base, row, plain(size)).values()), many)
                for number in {0, many // 2, many - 1}:
                    self.assertEqual(class_place(base, row, class_at(base, row, plain(size), number)), number)
                self.assertTrue(class_number(base, row) >= 1 and lone_stretches(base, row))

    def test_classes_of_many_that_come(self):
        base, row = right_tail(), ["a"] * 8 + ["z"]
        self.assertEqual([class_size(base, row, plain(9)), class_number(base, row)], [1430, 1])
        self.assertEqual(len(coming(base, row, plain(9))), 927)
        self.assertEqual(class_number(base, ["a"] * 9), 1430)
        self.assertEqual(class_by_deeds(base.typed().kinds(), base.triples(), row[3:], plain(6)), groupings(6))

    def test_inside_is_what_a_grouping_has_there(self):
        self.assertEqual(inside([(0, 2), (0, 4), (2, 4)], 2, 4), ((2, 4),))


if __name__ == "__main__":
    unittest.main()
