"""Free operations of rows: their values are classes of stretches and, beside these, kinds."""

from itertools import product

from shiftfolds.forms import join_heads, joined_lists, lone_heads, word_at
from shiftfolds.groupings import stretch_kinds
from shiftfolds.operations import Operation
from shiftfolds.typings import Typing


class FreeClasses:
    """The classes, by any triples, of ALL groupings of each stretch of a row.

    A class is a number. A way of one is a tuple (place, left, right): where the first part of a grouping of it
    ends, and the classes of both parts.
    """

    def __init__(self, table, triples, row):
        self._size = len(row)
        self._kinds = stretch_kinds(table, row)
        self._let = {triple: True for triple in triples}
        self._leasts = []
        self._ways = []
        self._numbers = {}
        self._classes = {}
        for length in range(1, len(row) + 1):
            for first in range(len(row) - length + 1):
                self._find(first, first + length)

    def classes(self, first, end):
        """The list of the classes of a stretch, in the order of their least groupings."""
        return list(self._classes[(first, end)])

    def least(self, number):
        """The least grouping of a class, its blocks told by the places of the row."""
        return list(self._leasts[number])

    def beside(self, first, mid, end, left, right):
        """The class that two neighbouring classes make."""
        return self._numbers[(first, mid, end, left, right)]

    def _find(self, first, end):
        lists = [[]]
        if end - first > 1:
            lists = self._joined_ways(first, end)
        told = sorted([(self._least_by(first, end, ways), ways) for ways in lists])
        self._classes[(first, end)] = []
        for least, ways in told:
            number = len(self._leasts)
            self._leasts.append(least)
            self._ways.append(ways)
            self._classes[(first, end)].append(number)
            for mid, left, right in ways:
                self._numbers[(first, mid, end, left, right)] = number

    def _joined_ways(self, first, end):
        ways = []
        for mid in range(first + 1, end):
            for left, right in product(self._classes[(first, mid)], self._classes[(mid, end)]):
                ways.append((mid, left, right))
        heads = lone_heads(ways)
        for way in ways:
            for other in self._shifted(first, end, way):
                join_heads(heads, way, other)
        return joined_lists(heads)

    def _shifted(self, first, end, way):
        mid, left, right = way
        found = []
        # deeds to the left lead back along deeds to the right: so these join as much
        for place, ahead, between in self._ways[left]:
            if (self._kinds[(first, place)], self._kinds[(place, mid)], self._kinds[(mid, end)]) in self._let:
                found.append((place, ahead, self._numbers[(place, mid, end, between, right)]))
        return found

    def _least_by(self, first, end, ways):
        found = [sorted(self._leasts[left] + self._leasts[right] + [(first, end)]) for _, left, right in ways]
        return min(found, default=[])


def free_of(kinds, triples, row):
    """The tuple of a typing and inputs: the values are the classes of all stretches of a row, and the kinds."""
    found = FreeClasses(kinds.table(), triples, row)
    keys = []
    for first in range(len(row)):
        for end in range(first + 1, len(row) + 1):
            keys.extend([(first, end, number) for number in found.classes(first, end)])
    return typing_of_classes(kinds, row, keys, found)


def parting_of(stretches, kinds, row, top):
    """The tuple of a typing and inputs: the values are the classes that come in one, single things, and the kinds."""
    keys = sorted(stretches.coming(top) + [(at, at + 1, ()) for at in range(len(row))])
    return typing_of_classes(kinds, row, keys, stretches)


def typing_of_classes(kinds, row, keys, stretches):
    """The typing whose values are some classes and the kinds, and the inputs that are the classes of the things.

    Two neighbouring classes make the one that they make side by side, if it is among them, other values a kind.
    """
    put = kinds.table()
    kinds_of = stretch_kinds(put, row)
    words = {key: "f" + word_at(at) for at, key in enumerate(keys)}
    own = {kind: "s" + word_at(at) for at, kind in enumerate(kinds.names())}
    kind_of = {words[key]: kinds_of[(key[0], key[1])] for key in keys}
    for kind in own:
        kind_of[own[kind]] = kind
    table = {}
    for first, second in product(kind_of, kind_of):
        table[(first, second)] = own[put[(kind_of[first], kind_of[second])]]
    for left, right in product(keys, keys):
        if left[1] == right[0]:
            made = (left[0], right[1], stretches.beside(left[0], left[1], right[1], left[2], right[2]))
            if made in words:
                table[(words[left], words[right])] = words[made]
    holding = {kind: sorted([word for word in kind_of if kind_of[word] == kind]) for kind in own}
    inputs = [words[key] for key in keys if key[1] - key[0] == 1]
    return (Typing(Operation(table), kinds, holding), inputs)
