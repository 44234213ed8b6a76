"""The closed terms at which a family has a value (points 6.3 to 6.5)."""

from casefamilies.states import least_states, state_at
from casefamilies.terms import closed_terms


def indices_of(signature, family, n):
    """Return the closed terms of size n at which a family has a value, in order."""
    states = least_states(signature)
    bit = states.bit(family)
    return [term for term in closed_terms(signature[0], n) if state_at(states.table, term, {}) & bit]


def count_indices(signature, family, n):
    """Return the number of the closed terms of size n at which a family has a value."""
    states = least_states(signature)
    bit = states.bit(family)
    counts = [{mask: 0 for mask in states.masks}]
    for many in range(1, n + 1):
        counts.append(counts_after(states, counts, many))
    return sum([many for mask, many in counts[max(n, 0)].items() if mask & bit])


def counts_after(states, counts, many):
    """Return how many closed terms of a size have each state, where lesser sizes are counted."""
    found = {mask: 0 for mask in states.masks}
    for row, mask in states.table.items():
        if len(row) == 1 and many == 1:
            found[mask] += 1
        if len(row) == 2:
            found[mask] += counts[many - 1][row[1]]
        if len(row) == 3:
            splits = [(left, many - 1 - left) for left in range(1, many - 1)]
            found[mask] += sum([counts[left][row[1]] * counts[rest][row[2]] for left, rest in splits])
    return found


def least_index(signature, wanted):
    """Return the first closed term with a profile, or None if there is none."""
    states = least_states(signature)
    masks = [mask for mask in states.masks if states.profile_of(mask) == wanted]
    return first_term(signature[0], states.table, masks)


def first_term(constructors, table, wanted):
    """Return the first closed term whose state is one of those wanted, or None.

    The states are settled one after the other, each with its first term. The parts of such a
    term are the first ones of their states, because greater parts make greater terms.
    """
    offers = {}
    settled = {}
    for word, arity in constructors:
        if arity == 0:
            offer(offers, settled, (word,), table[(word,)])
    # Without this the terms of all states would be made in vain, and some may be very large.
    while offers and wanted:
        state = min(list(offers), key=lambda known: offers[known][:2])
        settled[state] = offers.pop(state)
        if state in wanted:
            return settled[state][2]
        for row in rows_with(constructors, state, list(settled)):
            if table[row] not in settled:
                offer(offers, settled, row, table[row])
    return None


def offer(offers, settled, row, state):
    """Keep the size, the text and the term of a row for a state, if there is no lesser term."""
    parts = [settled[part] for part in row[1:]]
    many = 1 + sum([part[0] for part in parts])
    if state in offers and offers[state][0] < many:
        return
    text = row[0] + ("(" + ",".join([part[1] for part in parts]) + ")" if parts else "")
    if state not in offers or (many, text) < offers[state][:2]:
        offers[state] = (many, text, (row[0], *[part[2] for part in parts]))


def rows_with(constructors, state, known):
    """Return the rows with a state at one of their parts, and known ones, it too, at the other."""
    rows = []
    for word, arity in constructors:
        if arity == 1:
            rows.append((word, state))
        if arity == 2:
            rows.extend([(word, state, other) for other in known])
            rows.extend([(word, other, state) for other in known])
    return rows


def is_finite(signature, family):
    """Return True if a family has values at finitely many closed terms only."""
    states = least_states(signature)
    bit = states.bit(family)
    for mask in states.masks:
        above = states_above(states.table, mask)
        # A term within a greater one of the same state can be put in its place again and again.
        if mask in above and any([other & bit != 0 for other in above]):
            return False
    return True


def states_above(table, state):
    """Return the states of the terms that have a part, below the top, of a state."""
    found = {}
    waiting = [state]
    while waiting:
        lower = waiting.pop()
        for row, upper in table.items():
            if lower in row[1:] and upper not in found:
                found[upper] = True
                waiting.append(upper)
    return list(found)


def is_part(signature, first, second):
    """Return True if the second family has a value wherever the first one has."""
    states = least_states(signature)
    one, two = states.bit(first), states.bit(second)
    return all([mask & one == 0 or mask & two != 0 for mask in states.masks])


def first_difference(one, first, two, second):
    """Return the first closed term at which just one of two families has a value, or None."""
    here, there = least_states(one), least_states(two)
    table = paired(one[0], here.table, there.table)
    pairs = list({pair: True for pair in table.values()})
    bit, other = here.bit(first), there.bit(second)
    differing = [(a, b) for a, b in pairs if (a & bit == 0) != (b & other == 0)]
    return first_term(one[0], table, differing)


def paired(constructors, here, there):
    """Return the table of the pairs of states that closed terms have by two tables."""
    table = {(word,): (here[(word,)], there[(word,)]) for word, arity in constructors if arity == 0}
    found = {pair: True for pair in table.values()}
    waiting = list(found)
    known = []
    while waiting:
        pair = waiting.pop()
        known.append(pair)
        for row in rows_with(constructors, pair, known):
            one = (row[0], *[part[0] for part in row[1:]])
            two = (row[0], *[part[1] for part in row[1:]])
            table[row] = (here[one], there[two])
            if table[row] not in found:
                found[table[row]] = True
                waiting.append(table[row])
    return table


def count_likenesses(signature, family):
    """Return the number of classes of closed terms that are alike for a family."""
    states = least_states(signature)
    bit = states.bit(family)
    classes = {mask: 1 if mask & bit else 0 for mask in states.masks}
    many = 0
    while many < count_classes(classes):
        many = count_classes(classes)
        classes = split_classes(states, classes)
    return many


def count_classes(classes):
    """Return the number of different classes."""
    return len(set(list(classes.values())))


def split_classes(states, classes):
    """Return finer classes, by the classes of all terms that have a part of the state."""
    names = {}
    found = {}
    for mask in states.masks:
        rows = rows_with(states.constructors, mask, states.masks)
        seen = (classes[mask], *[classes[states.table[row]] for row in rows])
        found[mask] = names.setdefault(seen, len(names))
    return found
