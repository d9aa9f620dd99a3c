"""Foldings of kinds: partings of them into lists that tell as much of triples as the kinds do."""

from itertools import product

from shiftfolds.errors import InvalidFolding, InvalidKind, InvalidRow
from shiftfolds.forms import is_count, is_list_of, is_one_of, is_tuple_of
from shiftfolds.groupings import is_row_of
from shiftfolds.operations import is_kept, is_parting, list_heads
from shiftfolds.rights import check_triples, right_triples
from shiftfolds.typings import Kinds, Typing, check_kinds


def check_told(kinds, triples):
    """Raises the error of the first of the two that is none."""
    check_kinds(kinds)
    check_triples(kinds, triples)


def check_folding(kinds, triples, lists):
    """Raises the error of the first of the three that is none."""
    check_told(kinds, triples)
    if not is_folding_of(kinds, triples, lists):
        raise InvalidFolding(lists)


def is_folding_of(kinds, triples, value):
    """Whether any object is a folding of kinds for some triples, in its order."""
    if not is_parting(kinds.names(), value) or not is_kept(kinds.table(), value):
        return False
    return are_triples_kept(kinds.names(), triples, list_heads(value))


def are_triples_kept(names, triples, heads):
    """Whether each triple is one of the triples exactly if that of the first kinds of their lists is."""
    known = {triple: True for triple in triples}
    for one, two, three in product(names, names, names):
        if ((one, two, three) in known) != ((heads[one], heads[two], heads[three]) in known):
            return False
    return True


def is_folding(kinds, triples, value):
    """Whether any object is a folding of kinds for some triples, in its order."""
    check_told(kinds, triples)
    return is_folding_of(kinds, triples, value)


def all_foldings(kinds, triples):
    """The ascending list of all foldings of kinds for some triples."""
    check_told(kinds, triples)
    return sorted([lists for lists in all_partings(kinds.names()) if is_folding_of(kinds, triples, lists)])


def all_partings(names):
    """All partings of ascending names, as ascending lists of ascending lists."""
    found = [[]]
    for name in names:
        longer = []
        for lists in found:
            longer.append(lists + [[name]])
            for at, part in enumerate(lists):
                longer.append(lists[:at] + [part + [name]] + lists[at + 1:])
        found = longer
    return found


def coarsest(kinds, triples):
    """The folding in whose lists those of each other one lie."""
    check_told(kinds, triples)
    lists = []
    for name in kinds.names():
        at = 0
        while at < len(lists) and first_mark(kinds, triples, lists[at][0], name) is not None:
            at += 1
        if at == len(lists):
            lists.append([])
        lists[at].append(name)
    return lists


def first_mark(kinds, triples, one, other):
    """A mark of two kinds, None if there is none."""
    names, table = kinds.names(), kinds.table()
    known = {triple: True for triple in triples}
    # what several kinds make is a kind: so one on each side is enough
    sides = [[]] + [[name] for name in names]
    for ahead, behind in product(sides, sides):
        first, second = made_between(table, ahead, one, behind), made_between(table, ahead, other, behind)
        for place, rest in product(range(3), table):
            if (put_at(place, first, rest) in known) != (put_at(place, second, rest) in known):
                return (list(ahead), list(behind), place, rest)
    return None


def made_between(table, ahead, name, behind):
    """The kind that a kind makes, put between those ahead and those behind."""
    row = ahead + [name] + behind
    made = row[0]
    for other in row[1:]:
        made = table[(made, other)]
    return made


def put_at(place, name, rest):
    """The triple with a kind at a place, and two others at the other places."""
    return rest[:place] + (name,) + rest[place:]


def check_two(kinds, triples, one, other):
    """Raises the error of the first of the four that is none."""
    check_told(kinds, triples)
    if not is_one_of(one, kinds.names()):
        raise InvalidKind(one)
    if not is_one_of(other, kinds.names()):
        raise InvalidKind(other)


def apart(kinds, triples, one, other):
    """A mark of two kinds, None if one list of the coarsest folding has both."""
    check_two(kinds, triples, one, other)
    return first_mark(kinds, triples, one, other)


def is_mark(kinds, triples, one, other, value):
    """Whether any object is a mark of two kinds."""
    check_two(kinds, triples, one, other)
    names, table = kinds.names(), kinds.table()
    if not isinstance(value, tuple) or len(value) != 4:
        return False
    ahead, behind, place, rest = value
    if not is_list_of(ahead, names) or not is_list_of(behind, names):
        return False
    if not is_count(place) or place > 2 or not is_tuple_of(rest, 2, names):
        return False
    first, second = made_between(table, ahead, one, behind), made_between(table, ahead, other, behind)
    return (put_at(place, first, rest) in triples) != (put_at(place, second, rest) in triples)


def folded_kinds(kinds, triples, lists):
    """The Kinds of the lists of a folding, each named by its least kind."""
    check_folding(kinds, triples, lists)
    return kinds_of_lists(kinds, lists)


def kinds_of_lists(kinds, lists):
    """The Kinds of the lists of a folding, each named by its least kind."""
    heads, table = list_heads(lists), kinds.table()
    firsts = [part[0] for part in lists]
    return Kinds({pair: heads[table[pair]] for pair in product(firsts, firsts)})


def folded_triples(kinds, triples, lists):
    """The ascending list of those triples whose kinds bear the names of lists."""
    check_folding(kinds, triples, lists)
    firsts = [part[0] for part in lists]
    return [triple for triple in triples if is_tuple_of(triple, 3, firsts)]


def row_folded(kinds, triples, lists, row):
    """The row of the names of the lists of a row's kinds."""
    check_folding(kinds, triples, lists)
    if not is_row_of(kinds.names(), row):
        raise InvalidRow(row)
    heads = list_heads(lists)
    return [heads[kind] for kind in row]


def folded_typing(typed, lists):
    """The typing whose kinds are the lists of a folding for all right triples of a typing."""
    triples = right_triples(typed)
    check_folding(typed.kinds(), triples, lists)
    holding = {}
    for part in lists:
        values = {value: True for kind in part for value in typed.holding()[kind]}
        holding[part[0]] = sorted(values)
    return Typing(typed.operation(), kinds_of_lists(typed.kinds(), lists), holding)
