"""Section 10: prices."""

import unittest
from random import Random

from shiftfolds.classes import class_number, class_size, coming, splits_of
from shiftfolds.errors import InvalidGrouping, InvalidPrices
from shiftfolds.prices import (
    are_bounds, are_prices, bounds_of, cheapest, is_cheapest, is_nearest, is_unlike_shift, least_price, many_cheapest,
    most_shared, nearest, price_of, prices_alike, two_prices, unlike_shift,
)
from shiftfolds.rights import Base, kinds_base
from shiftfolds.shifts import plain
from shiftfolds.typings import Kinds, kinds_typing

from tests.folds import (
    all_triples, bent_groupings, deeds, done_by, folds, groupings, inside, kind_of, mid_of, told_class,
)
from tests.helpers import signs, strange_folds, strange_objects

HALVES = [(0, 2), (0, 4), (2, 4)]


def even_base():
    even = Kinds({("e", "e"): "e", ("e", "o"): "o", ("o", "e"): "o", ("o", "o"): "e"})
    return Base(kinds_typing(even), [("e", "o", "o")], "right")


def flat_prices(base, price=(1, 0, 0)):
    return {pair: price for pair in base.typed().kinds().table()}


def some_prices(base, seed, most=4):
    chance = Random(seed)
    return {pair: tuple(chance.randint(0, most) for _ in range(3)) for pair in base.typed().kinds().table()}


def cost_by_words(base, row, grouping, prices):
    """What a grouping costs, block by block."""
    kinds, total = base.typed().kinds(), 0
    for first, end in grouping:
        mid = mid_of(grouping, (first, end))
        k, l, r = prices[(kind_of(kinds, row, first, mid), kind_of(kinds, row, mid, end))]
        total += k + l * (mid - first) + r * (end - mid)
    return total


def least_of(pairs):
    """The tuples that no other one undercuts, by ALL of them."""
    pairs = set(pairs)
    return sorted(
        one for one in pairs
        if not any(other != one and other[0] <= one[0] and other[1] <= one[1] for other in pairs)
    )


def bounds_hold(base, row, found, value, limit):
    """Whether numbers are bounds, by ALL splits of ALL that come in a class of groupings."""
    splits = {}
    for grouping in found:
        for first, end in grouping:
            mid = mid_of(grouping, (first, end))
            halves = [
                (one, other, told_class(base, row, grouping, one, other)) if other - one > 1 else None
                for one, other in ((first, mid), (mid, end))
            ]
            key = (first, end, told_class(base, row, grouping, first, end))
            splits.setdefault(key, set()).add((mid, *halves))
    if sorted(value) != sorted(splits):
        return False
    return all(
        value[key] <= limit(key[0], mid, key[1], value[left] if left else 0, value[right] if right else 0)
        for key in splits for mid, left, right in splits[key]
    )


class ExamplesTest(unittest.TestCase):
    def test_even(self):
        base, row = even_base(), ["o"] * 4
        first, second, flat = [flat_prices(base, price) for price in ((0, 1, 0), (0, 0, 1), (1, 0, 0))]
        self.assertEqual([price_of(base, row, plain(4), first), price_of(base, row, HALVES, first)], [6, 4])
        self.assertEqual(least_price(base, row, plain(4), first), 4)
        self.assertEqual(cheapest(base, row, plain(4), first), HALVES)
        self.assertEqual(many_cheapest(base, row, plain(4), flat), 2)
        self.assertEqual(two_prices(base, row, plain(4), first, second), [(4, 4), (6, 3)])
        bounds = {(0, 2, ((0, 2),)): 1, (0, 3, ((0, 2), (0, 3))): 3, (0, 4, tuple(HALVES)): 4, (2, 4, ((2, 4),)): 1}
        self.assertEqual(list(bounds_of(base, row, plain(4), first).items()), list(bounds.items()))
        self.assertEqual(most_shared(base, row, plain(4), [(0, 4), (1, 4), (2, 4)]), 2)
        self.assertEqual(nearest(base, row, plain(4), [(0, 4), (1, 4), (2, 4)]), HALVES)
        self.assertIs(is_cheapest(base, row, plain(4), first, [(0, 3), (0, 4), (1, 3)]), False)
        self.assertIs(prices_alike(base, row, plain(4), flat), True)
        shift = (plain(4), ("right", 0, 2, 3, 4))
        self.assertIs(is_unlike_shift(base, row, plain(4), first, shift), True)


class PricesTest(unittest.TestCase):
    def test_any_object(self):
        base = even_base()
        right = flat_prices(base, (1, 2, 3))
        self.assertIs(are_prices(base, right), True)
        self.assertIs(are_prices(base, flat_prices(base, (0, 10 ** 9, 10 ** 30))), True)
        self.assertIs(are_prices(base, dict(reversed(list(right.items())))), True)
        for wrong in wrong_prices(right):
            self.assertIs(are_prices(base, wrong), False)
            row = ["o"] * 4
            for call in [price_of, least_price, cheapest, many_cheapest, bounds_of, prices_alike, unlike_shift]:
                with self.assertRaises(InvalidPrices) as caught:
                    call(base, row, plain(4), wrong)
                self.assertIs(caught.exception.value, wrong)
            for call in [is_cheapest, are_bounds, is_unlike_shift]:
                with self.assertRaises(InvalidPrices) as caught:
                    call(base, row, plain(4), wrong, None)
                self.assertIs(caught.exception.value, wrong)
            for two in [(wrong, 1), (right, wrong)]:
                with self.assertRaises(InvalidPrices) as caught:
                    two_prices(base, row, plain(4), *two)
                self.assertIs(caught.exception.value, wrong)

    def test_the_kinds_have_to_be_those_of_the_base(self):
        base = kinds_base(signs(), [], "right")
        self.assertIs(are_prices(base, flat_prices(even_base())), False)
        self.assertIs(are_prices(base, flat_prices(base)), True)


def wrong_prices(right):
    """Objects near prices that are none."""
    found = strange_objects() + strange_folds() + [None, list(right.items()), {**right, ("e", "x"): (0, 0, 0)}]
    found += [{pair: right[pair] for pair in list(right)[1:]}, {**right, "eo": (0, 0, 0)}, {**right, ("e",): (0, 0, 0)}]
    found.append({(pair if pair != ("e", "o") else ("e", "x")): price for pair, price in right.items()})
    for price in [
        [1, 2, 3], (1, 2), (1, 2, 3, 4), (1, 2, True), (False, 2, 3), (1, -2, 3), (1, "2", 3), (1, None, 3), 1, None, (),
        (1, (2,), 3), "123", {1: 2},
    ]:
        found.append({**right, ("e", "o"): price})
    return found


class ClassTest(unittest.TestCase):
    """Prices held against ALL groupings of the class."""

    def test_each_class(self):
        many = 0
        for at, (base, row, classes) in enumerate(folds(1, 6, 2)):
            for place, found in enumerate(classes[::1 + len(classes) // 6]):
                self.check_prices(base, row, found, some_prices(base, at + place), at + place)
                self.check_prices(base, row, found, flat_prices(base, (place, 1, 1)), at)
                many += len(found) > 2
        self.assertTrue(many > 50)

    def check_prices(self, base, row, found, prices, seed):
        one, costs = list(found[-1]), {each: cost_by_words(base, row, each, prices) for each in found}
        least = min(costs.values())
        for each in found[:6]:
            self.assertEqual(price_of(base, row, list(each), prices), costs[each])
        self.assertEqual(least_price(base, row, one, prices), least)
        self.assertEqual(costs[tuple(cheapest(base, row, one, prices))], least)
        self.assertEqual(many_cheapest(base, row, one, prices), list(costs.values()).count(least))
        for each in found[:9] + groupings(len(row))[::7]:
            wanted = each in costs and costs[each] == least
            self.assertIs(is_cheapest(base, row, one, prices, list(each)), wanted)
        others = some_prices(base, seed + 1)
        pairs = [(costs[each], cost_by_words(base, row, each, others)) for each in found]
        self.assertEqual(two_prices(base, row, one, prices, others), least_of(pairs))
        self.check_shifts(base, row, found, prices, costs)

    def check_shifts(self, base, row, found, prices, costs):
        one, kinds, known = list(found[0]), base.typed().kinds(), set(base.triples())
        alike = len(set(costs.values())) == 1
        self.assertIs(prices_alike(base, row, one, prices), alike)
        told = unlike_shift(base, row, one, prices)
        self.assertIs(told is None, alike)
        if not alike:
            grouping, deed = told
            self.assertIn(deed, deeds(kinds, known, row, tuple(grouping)))
            self.assertNotEqual(costs[tuple(grouping)], costs[done_by(grouping, deed)])
            self.assertIs(is_unlike_shift(base, row, one, prices, told), True)
            self.assertIs(is_unlike_shift(base, row, one, prices, list(told)), False)
        for each in found[:4]:
            for deed in deeds(kinds, known, row, each):
                wanted = costs[each] != costs[done_by(each, deed)]
                self.assertIs(is_unlike_shift(base, row, one, prices, (list(each), deed)), wanted)
                turned = (("left", "right")[deed[0] == "left"],) + deed[1:]
                self.assertIs(is_unlike_shift(base, row, one, prices, (list(each), turned)), False)

    def test_groupings_of_other_classes_are_no_shifts(self):
        base, row = even_base(), ["o"] * 4
        prices = flat_prices(base, (0, 1, 0))
        shift = ([(0, 4), (1, 3), (1, 4)], ("right", 1, 2, 3, 4))
        self.assertIs(is_unlike_shift(base, row, plain(4), prices, shift), False)
        self.assertEqual(len(two_prices(base, row, plain(4), prices, prices)), 1)

    def test_nearest(self):
        for base, row, classes in folds(1, 5, 4):
            for found in classes[::1 + len(classes) // 4]:
                for wished in groupings(len(row))[::3]:
                    one, shared = list(found[-1]), {each: len(set(each) & set(wished)) for each in found}
                    most = max(shared.values())
                    self.assertEqual(most_shared(base, row, one, list(wished)), most)
                    self.assertEqual(shared[tuple(nearest(base, row, one, list(wished)))], most)
                    for each in groupings(len(row))[::2]:
                        wanted = shared.get(each, -1) == most
                        self.assertIs(is_nearest(base, row, one, list(wished), list(each)), wanted)

    def test_any_object_as_a_grouping_or_a_shift(self):
        base, row = even_base(), ["o"] * 4
        prices = flat_prices(base, (0, 1, 0))
        right = (plain(4), ("right", 0, 2, 3, 4))
        self.assertIs(is_cheapest(base, row, plain(4), prices, HALVES), True)
        self.assertIs(is_nearest(base, row, plain(4), HALVES, HALVES), True)
        for wrong in bent_groupings(HALVES) + [[], plain(3), plain(5)] + strange_objects() + strange_folds():
            self.assertIs(is_cheapest(base, row, plain(4), prices, wrong), False)
            self.assertIs(is_nearest(base, row, plain(4), HALVES, wrong), False)
            self.assertIs(is_unlike_shift(base, row, plain(4), prices, (wrong, right[1])), False)
            self.assertIs(is_unlike_shift(base, row, plain(4), prices, (plain(4), wrong)), False)
            self.assertIs(is_unlike_shift(base, row, plain(4), prices, wrong), False)
        for deed in [("right", False, 2, 3, 4), ["right", 0, 2, 3, 4], ("right", 0, 2, 3), ("right", 0, 1, 2, 3), None]:
            self.assertIs(is_unlike_shift(base, row, plain(4), prices, (plain(4), deed)), False)
        self.assertIs(is_unlike_shift(base, row, plain(4), prices, right + (0,)), False)
        self.assertIs(is_unlike_shift(base, row, plain(4), prices, right), True)

    def test_wished_groupings_that_are_none(self):
        base, row = even_base(), ["o"] * 4
        for wrong in bent_groupings(HALVES) + [[], plain(3), plain(5), None]:
            for call in [most_shared, nearest, lambda *told: is_nearest(*told, None)]:
                with self.assertRaises(InvalidGrouping) as caught:
                    call(base, row, plain(4), wrong)
                self.assertIs(caught.exception.value, wrong)


def bent_bounds(right):
    """Objects near bounds: a class more or less, another form of a key, a number of another form."""
    found = [None, list(right.items()), list(right), {**right, (0, 1, ()): 0}, {**right, "x": 0}, {**right, (0, 9, ((0, 9),)): 0}]
    # a class of another one of four things, and one of a stretch that is no block there
    found += [{**right, (0, 4, ((0, 4), (1, 4), (2, 4))): 0}, {**right, (1, 4, ((1, 4), (2, 4))): 0}]
    for at, key in enumerate(right):
        rest = {other: right[other] for other in right if other != key}
        found.append(rest)
        for number in [True, False, -1, None, "0", [0], (0,)]:
            found.append({**rest, key: number})
        first, end, told = key
        if first < 2:
            found.append({**rest, (bool(first), end, told): right[key]})
        found.append({**rest, (first, end): right[key]})
        found.append({**rest, (first, end, ()): right[key]})
        bent = tuple((bool(one) if one < 2 else one, other) for one, other in told)
        found.append({**rest, (first, end, bent): right[key]} if any(one < 2 for one, _ in told) else rest)
    return found


class BoundsTest(unittest.TestCase):
    def test_the_greatest_are_the_least_prices(self):
        for at, (base, row, classes) in enumerate(folds(1, 5, 3)):
            prices = some_prices(base, at)
            for found in classes[::1 + len(classes) // 3]:
                told = bounds_of(base, row, list(found[0]), prices)
                wanted = {}
                for each in found:
                    for first, end in each:
                        key = (first, end, told_class(base, row, each, first, end))
                        cost = cost_by_words(base, row, inside(each, first, end), prices)
                        wanted[key] = min(wanted.get(key, cost), cost)
                self.assertEqual(list(told.items()), sorted(wanted.items()))
                self.check_bent(base, row, found, prices, told, at)

    def check_bent(self, base, row, found, prices, told, seed):
        kinds, chance, one = base.typed().kinds(), Random(seed), list(found[0])

        def limit(first, mid, end, left, right):
            k, l, r = prices[(kind_of(kinds, row, first, mid), kind_of(kinds, row, mid, end))]
            return k + l * (mid - first) + r * (end - mid) + left + right
        cases = [told, {key: 0 for key in told}, dict(reversed(list(told.items())))]
        for key in told:
            cases.append({**told, key: told[key] + 1})
            cases.append({**told, key: max(0, told[key] - 1)})
        for _ in range(4):
            cases.append({key: max(0, told[key] + chance.randint(-2, 1)) for key in told})
        for value in cases:
            self.assertIs(are_bounds(base, row, one, prices, value), bounds_hold(base, row, found, value, limit))
        self.assertIs(are_bounds(base, row, one, prices, told), True)

    def test_one_more_is_too_much_and_one_less_may_be(self):
        base, row = even_base(), ["o"] * 4
        prices = flat_prices(base, (0, 1, 0))
        told = bounds_of(base, row, plain(4), prices)
        for key in told:
            self.assertIs(are_bounds(base, row, plain(4), prices, {**told, key: told[key] + 1}), False)
        top = (0, 4, tuple(HALVES))
        self.assertIs(are_bounds(base, row, plain(4), prices, {**told, top: told[top] - 1}), True)
        inner = (2, 4, ((2, 4),))
        self.assertIs(are_bounds(base, row, plain(4), prices, {**told, inner: 0}), False)

    def test_any_object(self):
        base, row = even_base(), ["o"] * 4
        prices = flat_prices(base, (1, 1, 0))
        told = bounds_of(base, row, plain(4), prices)
        self.assertIs(are_bounds(base, row, plain(4), prices, told), True)
        for wrong in bent_bounds(told) + strange_objects() + strange_folds():
            self.assertIs(are_bounds(base, row, plain(4), prices, wrong), False, wrong)

    def test_one_thing_and_two(self):
        base, prices = even_base(), flat_prices(even_base(), (2, 3, 4))
        self.assertEqual([bounds_of(base, ["o"], [], prices), price_of(base, ["o"], [], prices)], [{}, 0])
        self.assertEqual([least_price(base, ["o"], [], prices), cheapest(base, ["o"], [], prices)], [0, []])
        self.assertEqual([many_cheapest(base, ["o"], [], prices), two_prices(base, ["o"], [], prices, prices)], [1, [(0, 0)]])
        self.assertEqual([most_shared(base, ["o"], [], []), nearest(base, ["o"], [], [])], [0, []])
        self.assertEqual([prices_alike(base, ["o"], [], prices), unlike_shift(base, ["o"], [], prices)], [True, None])
        for judge in [is_cheapest, are_bounds]:
            self.assertIs(judge(base, ["o"], [], prices, [] if judge is is_cheapest else {}), True)
            self.assertIs(judge(base, ["o"], [], prices, None), False)
        two = ["o", "e"]
        self.assertEqual(price_of(base, two, [(0, 2)], prices), 9)
        self.assertEqual(bounds_of(base, two, [(0, 2)], prices), {(0, 2, ((0, 2),)): 9})
        self.assertEqual(two_prices(base, two, [(0, 2)], prices, flat_prices(base)), [(9, 1)])


class SizeTest(unittest.TestCase):
    def test_great_inputs_are_answered(self):
        kinds = Kinds({(x, y): y for x in "az" for y in "az"})
        tail = kinds_base(kinds, [("a", "a", "z")], "right")
        for base, row in [
            (tail, ["a"] * 8 + ["z"]), (kinds_base(signs(), all_triples(signs()), "left"), ["a", "n", "p"] * 3),
            (kinds_base(signs(), all_triples(signs()), "right"), ["a", "n", "p", "p"] * 2 + ["n", "a", "a"]),
        ]:
            prices, others = some_prices(base, 1, 10 ** 9), some_prices(base, 2, 10 ** 9)
            size = len(row)
            found = cheapest(base, row, plain(size), prices)
            self.assertIs(is_cheapest(base, row, plain(size), prices, found), True)
            bounds = bounds_of(base, row, plain(size), prices)
            self.assertEqual(len(bounds), len(coming(base, row, plain(size))))
            self.assertIs(are_bounds(base, row, plain(size), prices, bounds), True)
            self.assertEqual(two_prices(base, row, plain(size), prices, others)[0][0], price_of(base, row, found, prices))
            told = unlike_shift(base, row, plain(size), prices)
            self.assertIs(is_unlike_shift(base, row, plain(size), prices, told), True)
            self.assertEqual(many_cheapest(base, row, plain(size), flat_prices(base)), class_size(base, row, plain(size)))
            self.assertEqual([class_number(base, row), len(splits_of(base, row, plain(size))) > 1], [1, True])


if __name__ == "__main__":
    unittest.main()
