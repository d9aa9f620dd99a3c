"""Forms of words and of tables of words, and words that are joined to lists: what all modules ask for."""

from itertools import product

LETTERS = "abcdefghijklmnopqrstuvwxyz"
FIGURES = "0123456789"
MOST_FIGURES = 900


def is_word(value):
    """Whether any object is a word: one to eight letters from a to z."""
    return isinstance(value, str) and 1 <= len(value) <= 8 and all([letter in LETTERS for letter in value])


def is_one_of(value, names):
    """Whether any object is one of some words, which are a list of them or the keys of a dictionary."""
    # only strings are looked for: lists and dictionaries cannot be keys
    return isinstance(value, str) and value in names


def is_tuple_of(value, size, names):
    """Whether any object is a tuple of so many of some words."""
    return isinstance(value, tuple) and len(value) == size and all([is_one_of(word, names) for word in value])


def is_list_of(value, names):
    """Whether any object is a list of some of the words, in any order, perhaps with doubles."""
    return isinstance(value, list) and all([is_one_of(word, names) for word in value])


def is_ascending(words):
    """Whether words, or lists of them, ascend without doubles."""
    return all([one < other for one, other in zip(words, words[1:])])


def is_ascending_list_of(value, names):
    """Whether any object is an ascending list of some of the words."""
    return is_list_of(value, names) and is_ascending(value)


def is_word_list(value):
    """Whether any object is a list, not empty, of unlike words."""
    if not isinstance(value, list) or not value:
        return False
    return all([is_word(word) for word in value]) and len(set(value)) == len(value)


def is_count(value):
    """Whether any object is a whole number of at least 0; True and False are none."""
    return isinstance(value, int) and not isinstance(value, bool) and value >= 0


def is_count_from(value, least):
    """Whether any object is a count that is at least so great."""
    return is_count(value) and value >= least


def is_count_list(value, size):
    """Whether any object is a list of so many counts."""
    return isinstance(value, list) and len(value) == size and all([is_count(part) for part in value])


def is_triples(value, names):
    """Whether any object is an ascending list of tuples of three of some words."""
    if not isinstance(value, list) or not all([is_tuple_of(triple, 3, names) for triple in value]):
        return False
    return is_ascending(value)


def word_at(number):
    """The word at a position of a, b, .., z, aa, ab, ..: shorter ones first, those of one length ascending."""
    word = ""
    left = number + 1
    while left > 0:
        word = LETTERS[(left - 1) % 26] + word
        left = (left - 1) // 26
    return word


def table_names(table):
    """The ascending list of the words of a table, None for any object that is no table.

    A table is a dictionary, not empty, from ALL tuples of two of its words to words of these.
    """
    if not isinstance(table, dict) or not table:
        return None
    for pair in table:
        if not isinstance(pair, tuple) or len(pair) != 2:
            return None
        if not isinstance(pair[0], str) or not isinstance(pair[1], str):
            return None
    names = sorted({word for pair in table for word in pair})
    if not is_word_list(names):
        return None
    # the keys are unlike tuples of two of these words: so they are ALL of them if there are as many
    if len(table) != len(names) * len(names):
        return None
    known = {name: True for name in names}
    if not all([is_one_of(made, known) for made in table.values()]):
        return None
    return names


def ordered_table(table, names):
    """A copy of a table with its keys ascending."""
    return {(first, second): table[(first, second)] for first in names for second in names}


def table_rows(table):
    """The dictionary from the first words of a table to the dictionaries from the second ones to what they make."""
    rows = {first: {} for first, second in table}
    for first, second in table:
        rows[first][second] = table[(first, second)]
    return rows


def bracketings(table, one, two, three):
    """The tuple of what three words make in either bracketing."""
    return (table[(table[(one, two)], three)], table[(one, table[(two, three)])])


def first_unlike(table, names):
    """The first tuple of three words whose two bracketings make unlike words, None if there is none."""
    for one, two, three in product(names, names, names):
        left, right = bracketings(table, one, two, three)
        if left != right:
            return (one, two, three)
    return None


def all_from(start, make):
    """All things, in any order, that come from some by making one of two of them, again and again."""
    known = {}
    waiting = list(start)
    while waiting:
        new = waiting.pop()
        if new not in known:
            known[new] = True
            for old in known:
                waiting.append(make(new, old))
                waiting.append(make(old, new))
    return list(known)


def lone_heads(names):
    """Heads by which no two words are joined: each word leads to one of its list, and the head of it to itself."""
    return {name: name for name in names}


def head_of(heads, name):
    """The head of the list of a word."""
    at = name
    while heads[at] != at:
        # a shorter way for the next time: else ways of large operations grow long
        heads[at] = heads[heads[at]]
        at = heads[at]
    return at


def join_heads(heads, one, other):
    """Joins the lists of two words, and returns whether they were apart."""
    if one == other:
        return False
    first, second = head_of(heads, one), head_of(heads, other)
    heads[second] = first
    return first != second


def joined_lists(heads):
    """The ascending list of the ascending lists of words that are joined."""
    lists = {}
    for name in sorted(heads):
        lists.setdefault(head_of(heads, name), []).append(name)
    # each list was begun with its least word: so they came in their order
    return [lists[head] for head in lists]


def is_figures(text):
    """Whether a text is one figure or more, but not so many that no number is made of them."""
    # Python itself refuses to read some thousands of figures
    return 0 < len(text) <= MOST_FIGURES and all([sign in FIGURES for sign in text])
