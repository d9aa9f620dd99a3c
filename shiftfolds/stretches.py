"""The classes of the stretches of a row by settled triples, each one told by the blocks of its last grouping."""

from shiftfolds.groupings import (
    check_grouping, check_row, inner_first, is_block, is_count_tuple, mids_of, stretch_kinds,
)
from shiftfolds.rights import check_base


class Stretches:
    """A row with settled triples, and what was found of the classes of its stretches.

    A class is a key: a tuple (first, end, told) of a stretch, things first to end - 1, and of the tuple that tells it.
    """

    def __init__(self, table, triples, word, row):
        self._size = len(row)
        self._word = word
        self._let = {triple: True for triple in triples}
        self._kinds = stretch_kinds(table, row)
        self._beside = {}
        self._splits = {}

    def size(self):
        """The number of the things of the row."""
        return self._size

    def word(self):
        """The word to which the triples are settled."""
        return self._word

    def kind(self, first, end):
        """The kind of a stretch."""
        return self._kinds[(first, end)]

    def is_let(self, first, second, third, end):
        """Whether the triple of the kinds of three neighbouring stretches lets shift them."""
        kinds = self._kinds
        return (kinds[(first, second)], kinds[(second, third)], kinds[(third, end)]) in self._let

    def whole(self, grouping):
        """The class of a grouping of the row."""
        return (0, self._size, self.told(grouping))

    def told(self, grouping):
        """The tuple that tells the class of a grouping of a stretch, its blocks told by the places of the row."""
        mids = mids_of(grouping)
        told = {}
        made = ()
        # the stretch itself is the last one that is come to
        for first, end in inner_first(grouping):
            mid = mids[(first, end)]
            made = self.beside(first, mid, end, told.get((first, mid), ()), told.get((mid, end), ()))
            told[(first, end)] = made
        return made

    def beside(self, first, mid, end, left, right):
        """The tuple that tells the class that two neighbouring classes make."""
        key = (first, mid, end, left, right)
        if key not in self._beside:
            self._beside[key] = self._shifted(first, mid, end, left, right)
        return self._beside[key]

    def _shifted(self, first, mid, end, left, right):
        if self._word == "right" and left:
            place, ahead, between = last_split(left)
            if self.is_let(first, place, mid, end):
                return self.beside(first, place, end, ahead, self.beside(place, mid, end, between, right))
        if self._word == "left" and right:
            place, between, behind = last_split(right)
            if self.is_let(first, mid, place, end):
                return self.beside(first, place, end, self.beside(first, mid, place, left, between), behind)
        return tuple(sorted(left + right + ((first, end),)))

    def splits(self, key):
        """The ascending list of the splits of a class, none for one thing."""
        if key[1] - key[0] < 2:
            return []
        if key not in self._splits:
            self._splits[key] = self._all_splits(key)
        return list(self._splits[key])

    def _all_splits(self, key):
        first, end, told = key
        waiting = [last_split(told)]
        found = {waiting[0]: True}
        # a deed that parts a class otherwise shifts the stretch itself: those within the parts keep their classes
        while waiting:
            for split in self._next_splits(first, end, waiting.pop()):
                if split not in found:
                    found[split] = True
                    waiting.append(split)
        return sorted(found)

    def _next_splits(self, first, end, split):
        mid, left, right = split
        found = []
        for place, ahead, between in self.splits((first, mid, left)):
            if self.is_let(first, place, mid, end):
                found.append((place, ahead, self.beside(place, mid, end, between, right)))
        for place, between, behind in self.splits((mid, end, right)):
            if self.is_let(first, mid, place, end):
                found.append((place, self.beside(first, mid, place, left, between), behind))
        return found

    def coming(self, top):
        """The list of the classes of two things or more that come in a class, each one behind its halves."""
        found = {}
        waiting = [top]
        while waiting:
            key = waiting.pop()
            if key not in found and key[1] - key[0] > 1:
                found[key] = True
                for split in self.splits(key):
                    waiting.extend(halves(key, split))
        return sorted(found, key=lambda one: (one[1] - one[0], one))


def last_split(told):
    """The split that the last grouping of a class of two things or more has."""
    first = told[0][0]
    many = 1
    while many < len(told) and told[many][0] == first:
        many += 1
    mid = first + 1 if many == 1 else told[many - 2][1]
    left = tuple([block for block in told if block[1] <= mid])
    return (mid, left, tuple([block for block in told if block[0] >= mid]))


def halves(key, split):
    """The classes of both halves of a split of a class."""
    mid, left, right = split
    return [(key[0], mid, left), (mid, key[1], right)]


def is_class(size, value):
    """Whether any object is, by its form, a class of two things or more."""
    if not isinstance(value, tuple) or len(value) != 3 or not is_block(size, value[:2]):
        return False
    return isinstance(value[2], tuple) and all([is_count_tuple(block, 2) for block in value[2]])


def is_keyed_by(size, keys, value):
    """Whether any object is a dictionary from just some classes of a row of so many things."""
    if not isinstance(value, dict) or len(value) != len(keys):
        return False
    # the form of the keys comes first: True and False would be found for 1 and 0
    return all([is_class(size, key) for key in value]) and all([key in value for key in keys])


def stretches_of(base, row):
    """The classes of the stretches of a row under a base."""
    return Stretches(base.typed().kinds().table(), base.triples(), base.word(), row)


def check_based_row(base, row):
    """Raises the error of the first of the two that is none."""
    check_base(base)
    check_row(base.typed().kinds(), row)


def check_fold(base, row, grouping):
    """Raises the error of the first of the three that is none."""
    check_based_row(base, row)
    check_grouping(len(row), grouping)


def folds_of(base, row, grouping):
    """The classes of the stretches of a row under a base; raises the error of the first argument that is none."""
    check_fold(base, row, grouping)
    return stretches_of(base, row)


def values_up(stretches, top, thing, choose):
    """The dictionary from the classes that come in one to values, got from those of their halves.

    A class of one thing has the value `thing`; any other one what `choose` makes of it and of the list of
    tuples of its splits and of the values of both halves.
    """
    values = {}
    for key in stretches.coming(top):
        told = []
        for split in stretches.splits(key):
            left, right = halves(key, split)
            told.append((split, values.get(left, thing), values.get(right, thing)))
        values[key] = choose(key, told)
    return values


def built(stretches, top, pick):
    """The grouping of a class in which each class that stands in it has the split that `pick` tells."""
    blocks = []
    waiting = [top]
    while waiting:
        key = waiting.pop()
        if key[1] - key[0] > 1:
            blocks.append((key[0], key[1]))
            waiting.extend(halves(key, pick(key)))
    return sorted(blocks)
