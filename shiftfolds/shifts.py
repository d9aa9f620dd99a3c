"""Rows of kinds, groupings of their things, deeds that shift blocks, and what they join."""

from shiftfolds.errors import InvalidCount, InvalidDeed
from shiftfolds.forms import is_count_from
from shiftfolds.groupings import (
    check_grouping, check_row, deed_done, deed_turned, deeds_let, is_chain_of, is_grouping_of, is_one_deed,
    is_row_of, plain_blocks, stretch_kinds,
)
from shiftfolds.lots import first_missing, greatest_below, least_above, rules_to
from shiftfolds.rights import check_lot, check_triples, right_triples
from shiftfolds.stretches import Stretches, check_fold, stretches_of
from shiftfolds.typings import check_kinds


def is_row(kinds, value):
    """Whether any object is a row of the kinds."""
    check_kinds(kinds)
    return is_row_of(kinds.names(), value)


def check_size(size):
    """Raises InvalidCount unless an object is a count of at least 1."""
    if not is_count_from(size, 1):
        raise InvalidCount(size)


def is_grouping(size, value):
    """Whether any object is a grouping of so many things."""
    check_size(size)
    return is_grouping_of(size, value)


def plain(size):
    """The plain grouping of so many things."""
    check_size(size)
    return plain_blocks(size)


def check_shifted(kinds, triples, row, grouping):
    """Raises the error of the first of the four that is none."""
    check_kinds(kinds)
    check_triples(kinds, triples)
    check_row(kinds, row)
    check_grouping(len(row), grouping)


def let_deeds(kinds, triples, row, grouping):
    """The ascending list of the deeds that fit a grouping and are let by triples."""
    check_shifted(kinds, triples, row, grouping)
    return deeds_let(stretch_kinds(kinds.table(), row), triples, grouping)


def done(kinds, triples, row, grouping, deed):
    """The grouping behind a deed that fits and is let."""
    if not is_one_deed(let_deeds(kinds, triples, row, grouping), deed):
        raise InvalidDeed(deed)
    return deed_done(grouping, deed)


def is_chain(kinds, triples, row, one, other, value):
    """Whether any object is a chain that leads from one grouping to another one."""
    check_shifted(kinds, triples, row, one)
    check_grouping(len(row), other)
    return is_chain_of(stretch_kinds(kinds.table(), row), triples, one, other, value)


def joined(base, row, one, other):
    """Whether two groupings are joined by the triples of a base."""
    check_fold(base, row, one)
    check_grouping(len(row), other)
    return are_alike(stretches_of(base, row), one, other)


def are_alike(stretches, one, other):
    """Whether two groupings of a row are in one class."""
    return stretches.told(one) == stretches.told(other)


def chain_between(base, row, one, other):
    """A chain from one grouping to another one, None if they are not joined."""
    check_fold(base, row, one)
    check_grouping(len(row), other)
    kinds_of = stretch_kinds(base.typed().kinds().table(), row)
    ahead, last = chain_to_last(kinds_of, base.triples(), base.word(), one)
    behind, other_last = chain_to_last(kinds_of, base.triples(), base.word(), other)
    if last != other_last:
        return None
    while ahead and behind and ahead[-1] == behind[-1]:
        # both ways come together ahead of the last grouping: the deeds from there on lead there and back
        ahead.pop()
        behind.pop()
    return ahead + [deed_turned(deed) for deed in behind[::-1]]


def chain_to_last(kinds_of, triples, word, grouping):
    """The tuple of a chain from a grouping to the last one of its class, and of that one."""
    chain = []
    at = grouping
    deeds = word_deeds(kinds_of, triples, word, at)
    while deeds:
        chain.append(deeds[0])
        at = deed_done(at, deeds[0])
        deeds = word_deeds(kinds_of, triples, word, at)
    return (chain, at)


def word_deeds(kinds_of, triples, word, grouping):
    """The ascending list of the let deeds with a word."""
    return [deed for deed in deeds_let(kinds_of, triples, grouping) if deed[0] == word]


def hull(kinds, triples, word):
    """The least list of triples that has all of a list and is settled to a word."""
    check_lot(kinds, triples, word)
    return least_above(rules_to(kinds.table(), kinds.names(), word), triples)


def side(typed, row, one, other):
    """Whether two groupings are joined by some settled right triples, apart by a hull of all, or neither: a word."""
    triples = right_triples(typed)
    kinds = typed.kinds()
    check_row(kinds, row)
    check_grouping(len(row), one)
    check_grouping(len(row), other)
    table = kinds.table()
    rules = {word: rules_to(table, kinds.names(), word) for word in ("right", "left")}
    for word in rules:
        # all of them settled to one word tell both: the hull is they alone, and greatest lots need not be looked for
        if first_missing(rules[word], triples) is None:
            return "joined" if are_alike(Stretches(table, triples, word, row), one, other) else "apart"
    # hulls first: what one of them parts no settled right triples join, and there may be many lots of these
    for word in rules:
        if not are_alike(Stretches(table, least_above(rules[word], triples), word, row), one, other):
            return "apart"
    for word in rules:
        for lot in greatest_below(rules[word], triples):
            if are_alike(Stretches(table, lot, word, row), one, other):
                return "joined"
    return "open"
