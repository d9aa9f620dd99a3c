"""Rows, groupings, deeds and classes by the words of the document, found without the package: what tests hold it against."""

from functools import lru_cache
from itertools import combinations, product
from random import Random

from shiftfolds.operations import Operation
from shiftfolds.rights import Base, kinds_base
from shiftfolds.typings import Kinds, Typing

from tests.helpers import random_table, signs, stop_typing

SIGN_TRIPLES = [("n", "a", "n"), ("n", "n", "n"), ("n", "p", "n"), ("p", "a", "p"), ("p", "n", "p"), ("p", "p", "p")]


def is_associative(table):
    names = sorted({name for pair in table for name in pair})
    return all(
        table[(table[(x, y)], z)] == table[(x, table[(y, z)])] for x, y, z in product(names, repeat=3)
    )


def small_kinds():
    """ALL Kinds of one and of two kinds, and some of three and four."""
    found = [Kinds({("k", "k"): "k"})]
    for made in product("ab", repeat=4):
        table = dict(zip(product("ab", repeat=2), made))
        if is_associative(table):
            found.append(Kinds(table))
    found.append(signs())
    found.append(Kinds({(x, y): "abc"[("abc".index(x) + "abc".index(y)) % 3] for x in "abc" for y in "abc"}))
    found.append(Kinds({(x, y): "abc"[min(2, "abc".index(x) + "abc".index(y) + 1)] for x in "abc" for y in "abc"}))
    found.append(Kinds({(x, y): max(x, y) for x in "abcd" for y in "abcd"}))
    found.append(Kinds({(x, y): x for x in "abcd" for y in "abcd"}))
    found.append(Kinds({(x, y): y for x in "abc" for y in "abc"}))
    found.append(Kinds({(x, y): "abcd"[("abcd".index(x) + "abcd".index(y)) % 4] for x in "abcd" for y in "abcd"}))
    return found


def small_typings():
    """Typings of small operations, those with no right triple and with right ones alone among them."""
    found = [stop_typing()]
    for seed in range(40):
        names = "uvwxy"[:2 + seed % 3]
        chance = Random(seed)
        operation = Operation(random_table(names, names[:1 + seed % len(names)], seed))
        for kinds in small_kinds()[seed % 3::3]:
            holding = {kind: sorted(chance.sample(names, chance.randint(1, len(names)))) for kind in kinds.names()}
            for holds in [holding, {kind: sorted(names) for kind in kinds.names()}]:
                if is_sound(operation, kinds, holds):
                    found.append(Typing(operation, kinds, holds))
    return found


def typing_of_kinds(kinds, sizes, seed):
    """A typing in which each value has one kind, each kind so many values, and two make any value of the kind made."""
    chance, letters = Random(seed), iter("abcdefghijklmnopqrstuvwxyz")
    holding = {kind: ["v" + next(letters) for _ in range(size)] for kind, size in zip(kinds.names(), sizes)}
    made = {
        (x, y): chance.choice(holding[kinds.put(a, b)]) for a, b in product(holding, repeat=2)
        for x in holding[a] for y in holding[b]
    }
    return Typing(Operation(made), kinds, holding)


def unsettled_typings():
    """Typings of which many have right triples that are settled to neither word."""
    found = []
    for seed in range(60):
        for kinds in small_kinds()[1:12:3]:
            sizes = [1 + (seed >> at) % 2 for at in range(len(kinds.names()))]
            found.append(typing_of_kinds(kinds, sizes, seed))
    return found


def is_sound(operation, kinds, holding):
    return all(
        operation.do(x, y) in holding[kinds.put(a, b)]
        for a, b in product(kinds.names(), repeat=2) for x in holding[a] for y in holding[b]
    )


def triple_rules(kinds, word):
    """ALL fours of kinds with the two triples that ask and the three that are asked for, by the words of [25]."""
    put, found = kinds.put, []
    for a, b, c, d in product(kinds.names(), repeat=4):
        ahead = [(a, b, c), (put(a, b), c, d)]
        behind = [(b, c, d), (a, b, put(c, d))]
        middle = (a, put(b, c), d)
        if word == "right":
            found.append(((a, b, c, d), ahead, [middle] + behind))
        else:
            found.append(((a, b, c, d), behind, [middle] + ahead))
    return found


def missing_triples(kinds, lot, word):
    """ALL tuples that missing_triple may return."""
    known = set(lot)
    return [
        (four, triple) for four, asking, asked in triple_rules(kinds, word) if known.issuperset(asking)
        for triple in asked if triple not in known
    ]


def closed(kinds, lot, word):
    """The least settled lot above one."""
    known = set(lot)
    rules = triple_rules(kinds, word)
    while True:
        more = {t for _, asking, asked in rules if known.issuperset(asking) for t in asked} - known
        if not more:
            return sorted(known)
        known |= more


def all_triples(kinds):
    return list(product(kinds.names(), repeat=3))


def some_lots(kinds, many, seed=0):
    """Some lots of triples: the empty one, that of all, and others of all sizes."""
    chance, triples = Random(seed), all_triples(kinds)
    found = [[], triples]
    for _ in range(many):
        found.append(sorted(chance.sample(triples, chance.randint(1, len(triples)))))
    for size in (1, 2, 3):
        found.append(sorted(chance.sample(triples, min(size, len(triples)))))
    return found


@lru_cache(None)
def some_bases(many=3):
    """Bases of both words over small kinds, with lots of many and of few triples, and one of another typing."""
    found = [Base(stop_typing(), SIGN_TRIPLES, word) for word in ("right", "left")]
    for at, kinds in enumerate(small_kinds()):
        for word in ("right", "left"):
            lots = [closed(kinds, lot, word) for lot in some_lots(kinds, many, at)]
            for lot in sorted(set(tuple(lot) for lot in lots)):
                found.append(kinds_base(kinds, list(lot), word))
    return found


def some_rows(kinds, longest, many, seed=0):
    """Rows of one thing, of two things, and up to so many."""
    chance = Random(seed)
    found = [[kinds.names()[-1]], [kinds.names()[0]] * 2]
    for size in range(1, longest + 1):
        for _ in range(many):
            found.append([chance.choice(kinds.names()) for _ in range(size)])
    return found


@lru_cache(None)
def groupings(size):
    """ALL groupings of so many things, as tuples, ascending."""
    if size == 1:
        return [()]
    found = []
    for mid in range(1, size):
        for left, right in product(groupings(mid), groupings(size - mid)):
            moved = tuple((first + mid, end + mid) for first, end in right)
            found.append(tuple(sorted(left + moved + ((0, size),))))
    return sorted(found)


def overlap(one, other):
    shared = set(range(*one)) & set(range(*other))
    return bool(shared) and shared != set(range(*one)) and shared != set(range(*other))


def laminar_lists(size):
    """ALL ascending lists of as many unlike blocks as a grouping has, of which no two overlap."""
    blocks = [(first, end) for first in range(size) for end in range(first + 2, size + 1)]
    return [
        list(found) for found in combinations(blocks, size - 1)
        if not any(overlap(one, other) for one, other in combinations(found, 2))
    ]


def is_part(grouping, first, end):
    return end - first == 1 or (first, end) in grouping


def mid_of(grouping, block):
    """The one place where the parts of a block meet."""
    first, end = block
    mids = [mid for mid in range(first + 1, end) if is_part(grouping, first, mid) and is_part(grouping, mid, end)]
    assert len(mids) == 1
    return mids[0]


def kind_of(kinds, row, first, end):
    made = row[first]
    for kind in row[first + 1:end]:
        made = kinds.put(made, kind)
    return made


def deeds(kinds, triples, row, grouping):
    """ALL deeds that fit and are let, by the words of [36]."""
    found, blocks = [], set(grouping)
    for first, second, third, end in combinations(range(len(row) + 1), 4):
        parts = [(first, second), (second, third), (third, end)]
        if (first, end) not in blocks or not all(is_part(blocks, *part) for part in parts):
            continue
        for word, inner in (("right", (first, third)), ("left", (second, end))):
            if inner in blocks and tuple(kind_of(kinds, row, *part) for part in parts) in triples:
                found.append((word, first, second, third, end))
    return sorted(found)


def done_by(grouping, deed):
    word, first, second, third, end = deed
    gone, new = (first, third), (second, end)
    if word == "left":
        gone, new = new, gone
    assert gone in grouping and new not in grouping
    return tuple(sorted(set(grouping) - {gone} | {new}))


def class_by_deeds(kinds, triples, row, grouping):
    """ALL groupings that are joined with one, as tuples, ascending."""
    known = set(triples)
    found, waiting = {tuple(grouping)}, [tuple(grouping)]
    while waiting:
        at = waiting.pop()
        for deed in deeds(kinds, known, row, at):
            made = done_by(at, deed)
            if made not in found:
                found.add(made)
                waiting.append(made)
    return sorted(found)


def classes_by_deeds(kinds, triples, row):
    """The classes of ALL groupings of a row."""
    found, seen = [], set()
    for grouping in groupings(len(row)):
        if grouping not in seen:
            found.append(class_by_deeds(kinds, triples, row, grouping))
            seen.update(found[-1])
    return found


def inside(grouping, first, end):
    """The blocks of a grouping within a stretch."""
    return tuple(block for block in grouping if first <= block[0] and block[1] <= end)


def folds(many=1, longest=6, step=1):
    """Tuples of a base, a row, and the classes of ALL its groupings."""
    for at, base in enumerate(some_bases()[::step]):
        kinds = base.typed().kinds()
        for row in some_rows(kinds, longest, many, at):
            yield base, row, classes_by_deeds(kinds, base.triples(), row)


TOLD = {}


def told_class(base, row, grouping, first, end):
    """The tuple that tells the class of what a grouping has within a stretch, by ALL that deeds lead to."""
    part = tuple((one - first, other - first) for one, other in inside(grouping, first, end))
    key = (id(base), tuple(row[first:end]), part)
    if key not in TOLD:
        # the base is held with what it told: so no other one gets its number
        TOLD[key] = (base, last_by_deeds(base, row[first:end], part))
    return tuple((one + first, other + first) for one, other in TOLD[key][1])


def last_by_deeds(base, row, grouping):
    """The one grouping joined with another one to which no deed with the base's word is let."""
    kinds, known = base.typed().kinds(), set(base.triples())
    last = [
        found for found in class_by_deeds(kinds, known, row, grouping)
        if not [deed for deed in deeds(kinds, known, row, found) if deed[0] == base.word()]
    ]
    assert len(last) == 1
    return last[0]


def bent_groupings(grouping):
    """Objects that are near a grouping of four things or more and none of so many things."""
    found = [tuple(grouping), grouping[::-1], grouping[:-1], grouping[1:], grouping + [grouping[-1]], {}, None, 3, "", True]
    for at, (first, end) in enumerate(grouping):
        for other in [
            [first, end], (first, end, end), (first,), (first, first + 1), (first, end + 9), (end, first), (str(first), end),
            (first, None), (first, [end]), (-1, end), (first, -end), first, None, (True, end), (first, True), (False, end),
        ]:
            if other != (first, end) or isinstance(other[0], bool) or isinstance(other[1], bool):
                found.append(grouping[:at] + [other] + grouping[at + 1:])
    return found
