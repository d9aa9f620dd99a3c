"""Lots of triples: which triples they ask for, the least settled lot above one, the greatest ones below one."""

from itertools import product


def rules_to(table, names, word):
    """For ALL four kinds a tuple of them, of the two triples that ask for others, and of the three asked for."""
    found = []
    for one, two, three, four in product(names, names, names, names):
        ahead = [(one, two, three), (table[(one, two)], three, four)]
        behind = [(two, three, four), (one, two, table[(three, four)])]
        between = [(one, table[(two, three)], four)]
        if word == "right":
            found.append(((one, two, three, four), ahead, between + behind))
        else:
            found.append(((one, two, three, four), behind, between + ahead))
    return found


def has_all(lot, triples):
    """Whether a lot, or a dictionary with its triples as keys, has all of some triples."""
    return all([triple in lot for triple in triples])


def first_missing(rules, lot):
    """The first tuple of four kinds and of a triple that they ask for and the lot has not, None if there is none."""
    known = {triple: True for triple in lot}
    for four, asking, asked in rules:
        if has_all(known, asking):
            for triple in asked:
                if triple not in known:
                    return (four, triple)
    return None


def least_above(rules, lot):
    """The ascending list of the triples of the least settled lot that has all of a lot."""
    found = list(lot)
    missing = first_missing(rules, found)
    while missing is not None:
        found.append(missing[1])
        missing = first_missing(rules, found)
    return sorted(found)


def greatest_below(rules, lot):
    """The ascending list of the settled lots of triples of a lot that no other such one holds."""
    asking_rules = [rule for rule in rules if has_all(lot, rule[1])]
    waiting = [sorted(lot)]
    seen = {}
    settled = []
    while waiting:
        part = waiting.pop()
        if tuple(part) not in seen:
            seen[tuple(part)] = True
            asking = asking_for_missing(asking_rules, part)
            if not asking:
                settled.append(part)
            # a settled lot within this one has not both of the two that ask: it lies within one of these
            for triple in asking:
                waiting.append([other for other in part if other != triple])
    return sorted([found for found in settled if is_greatest(found, settled)])


def asking_for_missing(rules, lot):
    """The two triples of a lot that ask for one that it has not, none if it is settled."""
    known = {triple: True for triple in lot}
    for _, asking, asked in rules:
        if has_all(known, asking) and not has_all(known, asked):
            return asking
    return []


def is_greatest(lot, lots):
    """Whether none of some lots holds a lot but itself."""
    for other in lots:
        if other != lot and has_all(other, lot):
            return False
    return True
