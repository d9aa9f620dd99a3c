"""Right triples of typings, lots of triples that are settled, and bases."""

from itertools import product

from shiftfolds.errors import InvalidBase, InvalidTriples, InvalidWord, Unsettled
from shiftfolds.forms import is_one_of, is_triples, is_tuple_of, table_rows
from shiftfolds.lots import first_missing, greatest_below, has_all, rules_to
from shiftfolds.operations import opposite
from shiftfolds.typings import Kinds, Typing, check_kinds, check_typing, kinds_typing


class Base:
    """A typing, triples that are right in it, and the word to which they are settled."""

    def __init__(self, typed, triples, word):
        check_typing(typed)
        if not is_triples(triples, typed.kinds().names()) or not are_right(typed, triples):
            raise InvalidTriples(triples)
        check_word(word)
        check_settled(typed.kinds(), triples, word)
        self._typed = typed
        self._triples = list(triples)
        self._word = word

    def typed(self):
        """The typing."""
        return self._typed

    def triples(self):
        """The ascending list of the triples."""
        return list(self._triples)

    def word(self):
        """The word to which the triples are settled."""
        return self._word

    def __eq__(self, other):
        return (
            isinstance(other, Base) and self._typed == other._typed and self._triples == other._triples
            and self._word == other._word
        )


def check_base(base):
    """Raises InvalidBase for any object that is no base."""
    if not isinstance(base, Base):
        raise InvalidBase(base)


def check_triples(kinds, triples):
    """Raises InvalidTriples unless an object is an ascending list of tuples of three kinds."""
    if not is_triples(triples, kinds.names()):
        raise InvalidTriples(triples)


def check_word(word):
    """Raises InvalidWord unless an object is one of the two words."""
    if not is_one_of(word, ("right", "left")):
        raise InvalidWord(word)


def check_lot(kinds, triples, word):
    """Raises the error of the first of the three that is none."""
    check_kinds(kinds)
    check_triples(kinds, triples)
    check_word(word)


def check_settled(kinds, triples, word):
    """Raises Unsettled with a lot of triples that is not settled to a word."""
    if missing_in(kinds, triples, word) is not None:
        raise Unsettled(triples)


def missing_in(kinds, triples, word):
    """The first tuple of four kinds and of a triple that they ask for and a lot has not, None if it is settled."""
    return first_missing(rules_to(kinds.table(), kinds.names(), word), triples)


def looked_up(typed):
    """The rows of a typing's table, its holding, and for each kind what values mostly make with its values."""
    rows, holding = table_rows(typed.operation().table()), typed.holding()
    return (rows, holding, {kind: usual_makes(rows, holding[kind]) for kind in holding})


def usual_makes(rows, held):
    """For each value a tuple of what it makes with most of some values, and of the list of all others of them."""
    found = {}
    for value in rows:
        many = {}
        for other in held:
            many[rows[value][other]] = many.get(rows[value][other], 0) + 1
        most = max(many, key=lambda made: many[made])
        found[value] = (most, [other for other in held if rows[value][other] != most])
    return found


def first_parting(looked, triple):
    """Three values of the kinds of a triple whose two bracketings are unlike, None if there are none."""
    rows, holding, usual = looked
    one, two, three = triple
    for first, second in product(holding[one], holding[two]):
        third = parting_third(rows, holding[three], usual[three], first, second)
        if third is not None:
            return (first, second, third)
    return None


def parting_third(rows, held, usual, first, second):
    """The value of some with which two others make unlike values in both bracketings, None if there is none."""
    row, between, made = rows[first], rows[second], rows[rows[first][second]]
    most, others = usual[second]
    made_most, made_others = usual[rows[first][second]]
    # large operations make one value with nearly all others: if both bracketings do, the few others are left to ask
    thirds = others + made_others if row[most] == made_most else held
    for third in thirds:
        if made[third] != row[between[third]]:
            return third
    return None


def are_right(typed, triples):
    """Whether all of some triples of kinds are right in a typing."""
    looked = looked_up(typed)
    for triple in triples:
        if first_parting(looked, triple) is not None:
            return False
    return True


def check_triple(typed, triple):
    """Raises the error of the first of the two that is no typing, or no triple of its kinds."""
    check_typing(typed)
    if not is_tuple_of(triple, 3, typed.kinds().names()):
        raise InvalidTriples(triple)


def right_triples(typed):
    """The ascending list of the triples of kinds that are right in a typing."""
    check_typing(typed)
    names = typed.kinds().names()
    looked = looked_up(typed)
    return [triple for triple in product(names, names, names) if first_parting(looked, triple) is None]


def is_right(typed, triple):
    """Whether a triple of kinds is right in a typing."""
    return parting_values(typed, triple) is None


def parting_values(typed, triple):
    """Three values of the kinds of a triple whose two bracketings are unlike, None if it is right."""
    check_triple(typed, triple)
    return first_parting(looked_up(typed), triple)


def are_parting_values(typed, triple, value):
    """Whether any object is three values that parting_values may return."""
    check_triple(typed, triple)
    holding = typed.holding()
    if not isinstance(value, tuple) or len(value) != 3:
        return False
    if not all([is_one_of(word, holding[kind]) for word, kind in zip(value, triple)]):
        return False
    first, second, third = value
    operation = typed.operation()
    left = operation.do(operation.do(first, second), third)
    return left != operation.do(first, operation.do(second, third))


def is_settled(kinds, triples, word):
    """Whether a lot of triples is settled to a word."""
    return missing_triple(kinds, triples, word) is None


def missing_triple(kinds, triples, word):
    """A tuple of four kinds and of a triple that they ask for and the lot has not, None if it is settled."""
    check_lot(kinds, triples, word)
    return missing_in(kinds, triples, word)


def is_missing(kinds, triples, word, value):
    """Whether any object is a tuple that missing_triple may return."""
    check_lot(kinds, triples, word)
    if not isinstance(value, tuple) or len(value) != 2:
        return False
    for four, asking, asked in rules_to(kinds.table(), kinds.names(), word):
        if four == value[0]:
            return has_all(triples, asking) and value[1] in asked and value[1] not in triples
    return False


def right_base(typed, word):
    """The Base of all right triples of a typing."""
    triples = right_triples(typed)
    check_word(word)
    return Base(typed, triples, word)


def greatest_lots(typed, word):
    """The ascending list of the settled lots of right triples that no other such lot holds."""
    triples = right_triples(typed)
    check_word(word)
    kinds = typed.kinds()
    return greatest_below(rules_to(kinds.table(), kinds.names(), word), triples)


def kinds_base(kinds, triples, word):
    """The Base of the typing whose values are the kinds, with a settled lot of triples."""
    check_lot(kinds, triples, word)
    return Base(kinds_typing(kinds), triples, word)


def mirrored_base(base):
    """The Base in which two values, and two kinds, make what they made the other way about."""
    check_base(base)
    typed = base.typed()
    table = typed.kinds().table()
    kinds = Kinds({(second, first): table[(first, second)] for first, second in table})
    triples = sorted([(three, two, one) for one, two, three in base.triples()])
    word = "left" if base.word() == "right" else "right"
    return Base(Typing(opposite(typed.operation()), kinds, typed.holding()), triples, word)
