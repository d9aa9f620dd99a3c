"""Section 12: hands."""

import unittest
from functools import lru_cache
from itertools import combinations, product
from random import Random

from shiftfolds.errors import InvalidCount, InvalidGrouping, InvalidHands, InvalidLosses
from shiftfolds.hands import (
    are_worst_losses, bar_steps, bars_left, costly_steps, greatest_bar, is_greatest_bar, is_least_schedule,
    is_schedule, run, schedule, worst_losses, worst_steps,
)
from shiftfolds.shifts import plain

from tests.folds import bent_groupings, groupings, mid_of
from tests.helpers import strange_folds, strange_objects

WOOD = [(0, 2), (0, 4), (2, 4)]


def depth_by_words(grouping, block):
    return len([other for other in grouping if other != block and other[0] <= block[0] and block[1] <= other[1]])


def parts_by_words(grouping, block):
    mid = mid_of(grouping, block)
    return [part for part in ((block[0], mid), (mid, block[1])) if part[1] - part[0] > 1]


def ready_by_words(grouping, done):
    """The blocks that can be done: those not done whose parts are things or done."""
    return [block for block in grouping if block not in done and all(part in done for part in parts_by_words(grouping, block))]


@lru_cache(None)
def least_steps(grouping, hands):
    """The least number of steps of ALL runs."""
    reached, steps = {frozenset()}, 0
    while frozenset(grouping) not in reached:
        further = set()
        for done in reached:
            ready = ready_by_words(grouping, done)
            for many in range(1, min(hands, len(ready)) + 1):
                further.update(done | set(taken) for taken in combinations(ready, many))
        reached, steps = further, steps + 1
    return steps


def run_by_words(grouping, hands, losses):
    """A run deepest first, step by step."""
    done, steps = set(), []
    while len(done) < len(grouping):
        ready = ready_by_words(grouping, done)
        ready.sort(key=lambda block: (-depth_by_words(grouping, block), block))
        lost = losses[len(steps)] if len(steps) < len(losses) else []
        steps.append(sorted(block for block in ready[:hands] if block not in lost))
        done.update(steps[-1])
    return steps


def number_by_words(grouping, left, hands):
    """The greatest number of bars of the blocks that are left."""
    deep = [depth_by_words(grouping, block) for block in left]
    numbers = []
    for bar in range(len(grouping) + 1):
        many = len([depth for depth in deep if depth >= bar])
        if many:
            numbers.append(bar + -(-many // hands))
    return max(numbers) if numbers else 0


def some_losses(grouping, chance, steps=4):
    return [
        sorted(chance.sample(grouping, chance.randint(0, min(3, len(grouping))))) for _ in range(chance.randint(0, steps))
    ]


def small_cases(longest=6, step=1):
    for size in range(1, longest + 1):
        for grouping in groupings(size)[::step]:
            for hands in (1, 2, 3):
                yield list(grouping), hands


class ExamplesTest(unittest.TestCase):
    def test_wood(self):
        self.assertEqual(schedule(WOOD, 2), [[(0, 2), (2, 4)], [(0, 4)]])
        self.assertIs(is_schedule(WOOD, 1, [[(0, 2)], [(2, 4)], [(0, 4)]]), True)
        self.assertIs(is_least_schedule(WOOD, 2, [[(0, 2)], [(2, 4)], [(0, 4)]]), False)
        self.assertEqual([bar_steps(WOOD, 1, 0), bar_steps(WOOD, 1, 1), greatest_bar(plain(4), 5)], [3, 3, 2])
        losses = [[(0, 2)]]
        self.assertEqual(run(WOOD, 2, losses), [[(2, 4)], [(0, 2)], [(0, 4)]])
        self.assertEqual([bars_left(WOOD, 2, losses), costly_steps(WOOD, 2, losses)], [[2, 2, 1, 0], [0]])
        self.assertEqual([worst_steps(WOOD, 2, 2), worst_steps([], 1, 5)], [4, 0])


class ScheduleTest(unittest.TestCase):
    def is_schedule_by_words(self, grouping, hands, steps):
        done = set()
        for step in steps:
            if not step or len(step) > hands or step != sorted(set(step)):
                return False
            if not set(step) <= set(ready_by_words(grouping, done)):
                return False
            done.update(step)
        return len(done) == len(grouping)

    def test_the_least_number_of_all_runs(self):
        for grouping, hands in list(small_cases(7)) + [(plain(12), 3)]:
            steps = schedule(grouping, hands)
            self.assertTrue(self.is_schedule_by_words(grouping, hands, steps))
            self.assertIs(is_schedule(grouping, hands, steps), True)
            self.assertIs(is_least_schedule(grouping, hands, steps), True)
            self.assertEqual(len(steps), least_steps(tuple(grouping), hands))

    def test_all_lists_of_blocks_of_small_groupings(self):
        for grouping, hands in small_cases(4):
            some = [list(blocks) for many in range(3) for blocks in combinations(grouping, many)]
            for steps in [list(told) for many in range(4) for told in product(some, repeat=many)]:
                wanted = self.is_schedule_by_words(grouping, hands, steps)
                self.assertIs(is_schedule(grouping, hands, steps), wanted)
                least = wanted and len(steps) == least_steps(tuple(grouping), hands)
                self.assertIs(is_least_schedule(grouping, hands, steps), least)

    def test_bent_in_one_block_or_one_step(self):
        for grouping, hands in small_cases(6, 5):
            steps = schedule(grouping, hands)
            for at in range(len(steps)):
                swapped = steps[:at] + steps[at + 1:] + [steps[at]]
                twice = steps[:at] + [steps[at]] + steps[at:]
                for bent in [steps[:at] + steps[at + 1:], swapped, twice, steps[:at] + [[]] + steps[at:], steps[::-1]]:
                    self.assertIs(is_schedule(grouping, hands, bent), self.is_schedule_by_words(grouping, hands, bent))
                for block in steps[at]:
                    rest = [other for other in steps[at] if other != block]
                    for behind in range(len(steps)):
                        bent = [list(step) for step in steps]
                        bent[at] = rest
                        bent[behind] = sorted(bent[behind] + [block])
                        bent = [step for step in bent if step]
                        wanted = self.is_schedule_by_words(grouping, hands, bent)
                        self.assertIs(is_schedule(grouping, hands, bent), wanted)
                bent = [list(step) for step in steps]
                bent[at] = bent[at][::-1]
                self.assertIs(is_schedule(grouping, hands, bent), len(steps[at]) == 1)

    def test_any_object(self):
        right = [[(0, 2), (2, 4)], [(0, 4)]]
        self.assertIs(is_schedule(WOOD, 2, right), True)
        for wrong in strange_objects() + strange_folds() + [
            tuple(right), [tuple(step) for step in right], [[(0, 2), (2, 4)]], right + [[]], [[(2, 4), (0, 2)], [(0, 4)]],
            [[(0, 2), [2, 4]], [(0, 4)]], [[(False, 2), (2, 4)], [(0, 4)]], right + [[(0, 4)]], [[(0, 2), (2, 4), (0, 4)]],
            [[(0, 2), (2, 4)], (0, 4)], [[(0, 2), (2, 4)], [(0, 4, 4)]], [[(0, 2), (2, 4)], [(0, 3)]], [right], {0: right},
            [[(0, 2), (2, 4)], [None]], [[(0, 2), (2, 4)], None], [[(0, 4)], [(0, 2), (2, 4)]], [],
        ]:
            for judge in [is_schedule, is_least_schedule]:
                self.assertIs(judge(WOOD, 2, wrong), False)
        self.assertIs(is_schedule([(0, 3), (1, 3)], 1, [[(1, 3)], [(0, 3)]]), True)
        self.assertIs(is_schedule([(0, 3), (1, 3)], 1, [[(True, 3)], [(0, 3)]]), False)
        self.assertIs(is_schedule(WOOD, 1, right), False)

    def test_one_thing(self):
        for hands in (1, 9):
            self.assertEqual([schedule([], hands), greatest_bar([], hands), run([], hands, [])], [[], None, []])
            self.assertEqual([is_schedule([], hands, []), is_least_schedule([], hands, [])], [True, True])
            self.assertEqual([is_schedule([], hands, [[]]), is_schedule([], hands, None)], [False, False])
            self.assertEqual([bars_left([], hands, []), bars_left([], hands, [[], []])], [[0], [0]])
            self.assertEqual([costly_steps([], hands, []), worst_steps([], hands, 3)], [[], 0])
            self.assertEqual([is_greatest_bar([], hands, 0), is_greatest_bar([], hands, None)], [False, False])
            self.assertIs(are_worst_losses([], hands, 3, worst_losses([], hands, 3)), True)
            self.assertIs(are_worst_losses([], hands, 0, [[], []]), True)
            self.assertRaises(InvalidCount, bar_steps, [], hands, 0)


class BarTest(unittest.TestCase):
    def test_by_all_depths(self):
        for grouping, hands in small_cases(7, 2):
            numbers = {}
            for bar in range(len(grouping) + 2):
                many = len([block for block in grouping if depth_by_words(grouping, block) >= bar])
                if many:
                    numbers[bar] = bar + -(-many // hands)
                    self.assertEqual(bar_steps(grouping, hands, bar), numbers[bar])
                else:
                    with self.assertRaises(InvalidCount) as caught:
                        bar_steps(grouping, hands, bar)
                    self.assertIs(caught.exception.value, bar)
            if grouping:
                self.assertEqual(max(numbers.values()), least_steps(tuple(grouping), hands))
                self.assertEqual(numbers[greatest_bar(grouping, hands)], max(numbers.values()))
            for bar in range(len(grouping) + 2):
                wanted = bar in numbers and numbers[bar] == max(numbers.values())
                self.assertIs(is_greatest_bar(grouping, hands, bar), wanted)

    def test_any_object(self):
        self.assertEqual([bar_steps(WOOD, 1, 0), bar_steps(WOOD, 1, 1)], [3, 3])
        self.assertEqual([is_greatest_bar(WOOD, 1, 0), is_greatest_bar(WOOD, 1, 1)], [True, True])
        for wrong in strange_objects() + strange_folds() + [True, False, "0", -1, 2, [0], (0,), None, 10 ** 30]:
            if isinstance(wrong, int) and not isinstance(wrong, bool) and wrong in (0, 1):
                continue
            self.assertIs(is_greatest_bar(WOOD, 1, wrong), False)
            with self.assertRaises(InvalidCount) as caught:
                bar_steps(WOOD, 1, wrong)
            self.assertIs(caught.exception.value, wrong)


class RunTest(unittest.TestCase):
    def test_step_by_step(self):
        chance, costly = Random(9), 0
        for grouping, hands in small_cases(6):
            for _ in range(4):
                losses = some_losses(grouping, chance)
                steps = run_by_words(grouping, hands, losses)
                self.assertEqual(run(grouping, hands, losses), steps)
                left, numbers = list(grouping), []
                for step in [[]] + steps:
                    left = [block for block in left if block not in step]
                    numbers.append(number_by_words(grouping, left, hands))
                self.assertEqual(bars_left(grouping, hands, losses), numbers)
                wanted = [at for at in range(len(steps)) if numbers[at + 1] == numbers[at]]
                self.assertEqual(costly_steps(grouping, hands, losses), wanted)
                costly += len(wanted) > 1
                self.assertEqual(len(steps), least_steps(tuple(grouping), hands) + len(wanted))
        self.assertTrue(costly)

    def test_a_step_may_do_nothing(self):
        self.assertEqual(run(plain(3), 1, [[(0, 2)], [], [(0, 3)]]), [[], [(0, 2)], [], [(0, 3)]])
        self.assertEqual(run([(0, 2)], 3, [[], [(0, 2)]]), [[(0, 2)]])
        self.assertEqual(run([(0, 2)], 3, [[(0, 2)]] * 3), [[], [], [], [(0, 2)]])

    def test_deeper_ones_first_and_lesser_ones_of_like_depth(self):
        grouping = sorted([(0, 2), (0, 6), (2, 6), (2, 4), (4, 6)])
        self.assertEqual(run(grouping, 1, []), [[(2, 4)], [(4, 6)], [(0, 2)], [(2, 6)], [(0, 6)]])
        self.assertEqual(run(grouping, 2, []), [[(2, 4), (4, 6)], [(0, 2), (2, 6)], [(0, 6)]])

    def test_losses_that_are_none(self):
        right = [[(0, 2)], [], [(0, 4), (2, 4)]]
        self.assertEqual(len(run(WOOD, 2, right)), 4)
        for wrong in strange_objects() + strange_folds() + [
            tuple(right), [()], [[(2, 4), (0, 2)]], [[(0, 2), (0, 2)]], [[(0, 3)]], [[(False, 2)]], [[[0, 2]]], [(0, 2)], None,
            [[(0, 2)], None], [[(0, 2), None]], {0: [(0, 2)]}, [[(0, 2, 2)]], [[(1, 3)]], [[(0, 5)]], [[(0, True)]], [[0]],
        ]:
            if repr(wrong) in ("[]", "[[]]", "[[], []]", "[[(0, 2)]]", "[[(0, 2)], [(0, 2)]]"):
                continue
            for call in [run, bars_left, costly_steps]:
                with self.assertRaises(InvalidLosses) as caught:
                    call(WOOD, 2, wrong)
                self.assertIs(caught.exception.value, wrong)
            self.assertIs(are_worst_losses(WOOD, 2, 0, wrong), False)


class WorstTest(unittest.TestCase):
    def test_all_losses_of_up_to_two_blocks(self):
        for size in range(1, 5):
            for grouping in groupings(size):
                for hands, lost in product((1, 2, 3), (0, 1, 2)):
                    self.check(list(grouping), hands, lost)

    def check(self, grouping, hands, lost):
        least = least_steps(tuple(grouping), hands)
        places = [(at, block) for at in range(least + 2) for block in grouping]
        steps = {}
        for many in range(3):
            for taken in combinations(places, many):
                losses = [sorted(block for at, block in taken if at == step) for step in range(least + 2)]
                steps[taken] = (losses, len(run_by_words(grouping, hands, losses)))
        worst = max(many for taken, (_, many) in steps.items() if len(taken) <= lost)
        self.assertEqual(worst_steps(grouping, hands, lost), worst)
        told = worst_losses(grouping, hands, lost)
        self.assertTrue(sum(map(len, told)) <= lost)
        self.assertEqual(len(run_by_words(grouping, hands, told)), worst)
        self.assertIs(are_worst_losses(grouping, hands, lost, told), True)
        for taken, (losses, many) in steps.items():
            self.assertIs(are_worst_losses(grouping, hands, lost, losses), len(taken) <= lost and many == worst)

    def test_great_ones(self):
        for hands in (1, 4, 9):
            for lost in (0, 1, 9, 20):
                told = worst_losses(plain(12), hands, lost)
                self.assertEqual(len(run(plain(12), hands, told)), worst_steps(plain(12), hands, lost))
                self.assertEqual(worst_steps(plain(12), hands, lost), 11 + lost)
                self.assertIs(are_worst_losses(plain(12), hands, lost, told), True)
                self.assertIs(are_worst_losses(plain(12), hands, lost + 1, told), False)
                if lost:
                    self.assertIs(are_worst_losses(plain(12), hands, lost - 1, told), False)

    def test_counts_that_are_none(self):
        for wrong in strange_objects() + strange_folds() + [-1, True, False, "1", None, [1]]:
            if isinstance(wrong, int) and not isinstance(wrong, bool) and wrong >= 0:
                continue
            for call in [worst_steps, worst_losses, lambda *told: are_worst_losses(*told, None)]:
                with self.assertRaises(InvalidCount) as caught:
                    call(WOOD, 2, wrong)
                self.assertIs(caught.exception.value, wrong)


CALLS = [
    schedule, greatest_bar, lambda *told: is_schedule(*told, None), lambda *told: is_least_schedule(*told, None),
    lambda *told: bar_steps(*told, None), lambda *told: is_greatest_bar(*told, None), lambda *told: run(*told, None),
    lambda *told: bars_left(*told, None), lambda *told: costly_steps(*told, None), lambda *told: worst_steps(*told, None),
    lambda *told: worst_losses(*told, None), lambda *told: are_worst_losses(*told, None, None),
]


class ArgumentsTest(unittest.TestCase):
    def test_groupings_and_hands(self):
        for wrong in bent_groupings(WOOD) + [[(0, 3)], [(0, 2), (1, 3)], None]:
            for call in CALLS:
                with self.assertRaises(InvalidGrouping) as caught:
                    call(wrong, 0)
                self.assertIs(caught.exception.value, wrong)
        for wrong in [0, -1, True, False, "1", None, [1], (1,), "", {}]:
            for call in CALLS:
                with self.assertRaises(InvalidHands) as caught:
                    call(WOOD, wrong)
                self.assertIs(caught.exception.value, wrong)

    def test_many_hands(self):
        for hands in (9, 60, 10 ** 30):
            self.assertEqual(schedule(WOOD, hands), [[(0, 2), (2, 4)], [(0, 4)]])
            self.assertEqual([bar_steps(WOOD, hands, 1), greatest_bar(WOOD, hands)], [2, 1])


if __name__ == "__main__":
    unittest.main()
