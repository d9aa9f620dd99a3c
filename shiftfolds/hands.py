"""Runs of groupings on hands: schedules, bars below which no schedule comes, and runs that lose works."""

from shiftfolds.errors import InvalidCount, InvalidHands, InvalidLosses
from shiftfolds.forms import is_count, is_count_from
from shiftfolds.groupings import check_any_grouping, is_block_list, mids_of


def check_hands(hands):
    """Raises InvalidHands unless an object is a count from 1 on."""
    if not is_count_from(hands, 1):
        raise InvalidHands(hands)


def check_run(grouping, hands):
    """Raises the error of the first of the two that is none."""
    check_any_grouping(grouping)
    check_hands(hands)


def block_parts(grouping):
    """The dictionary from the blocks of a grouping to the lists of those of their parts that are blocks."""
    mids = mids_of(grouping)
    return {block: [part for part in parts_at(block, mids[block]) if part in mids] for block in grouping}


def parts_at(block, mid):
    """The parts of a block that meet at a place."""
    return [(block[0], mid), (mid, block[1])]


def block_depths(grouping):
    """The dictionary from the blocks of a grouping to how many other ones hold them."""
    found = {}
    for first, end in grouping:
        # a block is among those that begin no later and end no sooner, too
        found[(first, end)] = len([one for one, last in grouping if one <= first and end <= last]) - 1
    return found


def is_schedule(grouping, hands, value):
    """Whether any object is a schedule of a grouping on so many hands."""
    check_run(grouping, hands)
    if not isinstance(value, list):
        return False
    parts = block_parts(grouping)
    done = {}
    for step in value:
        if not is_block_list(len(grouping) + 1, step) or not 1 <= len(step) <= hands:
            return False
        for block in step:
            if block in done or not is_ready(parts, done, block):
                return False
        for block in step:
            done[block] = True
    return len(done) == len(grouping)


def is_ready(parts, done, block):
    """Whether a block is one of a grouping, and its parts are things, or blocks that are done."""
    return block in parts and all([part in done for part in parts[block]])


def schedule(grouping, hands):
    """A schedule with as few steps as can be."""
    check_run(grouping, hands)
    return steps_run(grouping, hands, [])


def steps_run(grouping, hands, losses):
    """The list of the ascending lists of the blocks that a run deepest first does in each step."""
    parts, deep = block_parts(grouping), block_depths(grouping)
    done = {}
    steps = []
    while len(done) < len(grouping):
        ready = [block for block in grouping if block not in done and is_ready(parts, done, block)]
        taken = sorted(ready, key=lambda one: (-deep[one], one))[:hands]
        lost = losses[len(steps)] if len(steps) < len(losses) else []
        steps.append(sorted([block for block in taken if block not in lost]))
        for block in steps[-1]:
            done[block] = True
    return steps


def is_least_schedule(grouping, hands, value):
    """Whether any object is a schedule with as few steps as can be."""
    return is_schedule(grouping, hands, value) and len(value) == len(steps_run(grouping, hands, []))


def depth_numbers(deep):
    """The list of how many of some depths are 0, 1, .. or more, as long as there are such ones."""
    return [len([depth for depth in deep if depth >= least]) for least in range(max(deep, default=-1) + 1)]


def steps_by_numbers(numbers, hands):
    """The list of the numbers of steps that bars tell, of so many blocks at each one or deeper."""
    return [bar + (many + hands - 1) // hands for bar, many in enumerate(numbers)]


def bar_numbers(deep, hands):
    """The list of the numbers of the bars 0, 1, .. of blocks of some depths, as long as there are such blocks."""
    return steps_by_numbers(depth_numbers(deep), hands)


def numbers_of(grouping, hands):
    """The list of the numbers of the bars of a grouping."""
    return bar_numbers(list(block_depths(grouping).values()), hands)


def bar_steps(grouping, hands, depth):
    """The number of steps that a bar tells."""
    check_run(grouping, hands)
    numbers = numbers_of(grouping, hands)
    if not is_count(depth) or depth >= len(numbers):
        raise InvalidCount(depth)
    return numbers[depth]


def greatest_bar(grouping, hands):
    """A bar with the greatest number, None for one thing."""
    check_run(grouping, hands)
    numbers = numbers_of(grouping, hands)
    return numbers.index(max(numbers)) if numbers else None


def is_greatest_bar(grouping, hands, value):
    """Whether any object is a bar with the greatest number."""
    check_run(grouping, hands)
    numbers = numbers_of(grouping, hands)
    return is_count(value) and value < len(numbers) and numbers[value] == max(numbers)


def are_losses(grouping, value):
    """Whether any object is losses of a grouping."""
    if not isinstance(value, list) or not all([is_block_list(len(grouping) + 1, lost) for lost in value]):
        return False
    return all([block in grouping for lost in value for block in lost])


def check_losses(grouping, hands, losses):
    """Raises the error of the first of the three that is none."""
    check_run(grouping, hands)
    if not are_losses(grouping, losses):
        raise InvalidLosses(losses)


def run(grouping, hands, losses):
    """The list of the ascending lists of the blocks that are done, not lost, in each step."""
    check_losses(grouping, hands, losses)
    return steps_run(grouping, hands, losses)


def bars_left(grouping, hands, losses):
    """The list of the greatest numbers of bars of the blocks that are left, ahead of a run and behind each step."""
    check_losses(grouping, hands, losses)
    left = block_depths(grouping)
    found = [max(bar_numbers(list(left.values()), hands), default=0)]
    for step in steps_run(grouping, hands, losses):
        left = {block: left[block] for block in left if block not in step}
        found.append(max(bar_numbers(list(left.values()), hands), default=0))
    return found


def costly_steps(grouping, hands, losses):
    """The ascending list of the positions of the steps behind which the greatest number has not fallen."""
    numbers = bars_left(grouping, hands, losses)
    return [at for at in range(len(numbers) - 1) if numbers[at + 1] >= numbers[at]]


def check_lost(grouping, hands, lost):
    """Raises the error of the first of the three that is none."""
    check_run(grouping, hands)
    if not is_count(lost):
        raise InvalidCount(lost)


def worst_steps(grouping, hands, lost):
    """The greatest number of steps of runs in which at most so many blocks are lost."""
    check_lost(grouping, hands, lost)
    if not grouping:
        return 0
    return len(steps_run(grouping, hands, [])) + lost


def worst_losses(grouping, hands, lost):
    """Losses of at most so many blocks with which the greatest number of steps comes."""
    many = worst_steps(grouping, hands, lost)
    if not grouping:
        return []
    # the block of all things is done alone, in the last step: each time that it is lost costs a step
    return [[] for _ in range(many - lost - 1)] + [[(0, len(grouping) + 1)] for _ in range(lost)]


def are_worst_losses(grouping, hands, lost, value):
    """Whether any object is losses that worst_losses may return."""
    many = worst_steps(grouping, hands, lost)
    if not are_losses(grouping, value) or sum([len(blocks) for blocks in value]) > lost:
        return False
    return len(steps_run(grouping, hands, value)) == many
