"""The profiles of closed terms, and papers that show them (points 6.1 and 6.2)."""

from casefamilies.errors import NoProfile
from casefamilies.recipes import Kitchen
from casefamilies.rules import are_within, check_rule, needs
from casefamilies.signatures import maker_variables
from casefamilies.states import breaches, least_states, state_at, tuples_of


def profile(signature, index):
    """Return the ascending tuple of the families that have a value at a closed term."""
    states = least_states(signature)
    return states.profile_of(state_at(states.table, index, {}))


def profiles(signature):
    """Return the ascending list of the profiles of all closed terms."""
    states = least_states(signature)
    return sorted([states.profile_of(mask) for mask in states.masks])


def profile_after(signature, word, parts):
    """Return the profile of a term of which the word and the profiles of the parts are given."""
    states = least_states(signature)
    known = [states.profile_of(mask) for mask in states.masks]
    if not all([part in known for part in parts]):
        raise NoProfile("a part is not the profile of a closed term")
    row = (word, *[states.masks[known.index(part)] for part in parts])
    return states.profile_of(states.table[row])


def profile_paper(signature):
    """Return a right profile paper."""
    kitchen = Kitchen(signature)
    states = kitchen.states
    paper = []
    for row, mask in states.table.items():
        families = states.profile_of(mask)
        ways = kitchen.row_ways(row)
        templates = tuple([ways[family].recipe.rule()[2] for family in families])
        parts = tuple([states.profile_of(part) for part in row[1:]])
        paper.append((row[0], parts, families, templates))
    return tuple(paper)


def check_profiles(signature, value):
    """Return True if a value is a right profile paper."""
    if type(value) is not tuple or not all([is_row(signature, row) for row in value]):
        return False
    table = {(word, *parts): families for word, parts, families, templates in value}
    if len(table) != len(value) or not are_founded(value):
        return False
    states = list({families: True for families in table.values()})
    if len(table) != sum([len(tuples_of(states, arity)) for word, arity in signature[0]]):
        return False
    members = {(family, families): True for families in states for family in families}
    for maker in signature[2]:
        if breaches(maker, [states] * len(maker_variables(maker)), table, members):
            return False
    return all([is_proved(signature, row) for row in value])


def is_row(signature, value):
    """Return True if a value has the form of a row of a profile paper."""
    if type(value) is not tuple or len(value) != 4:
        return False
    word, parts, families, templates = value
    arities = dict(signature[0])
    if type(word) is not str or word not in arities:
        return False
    if type(parts) is not tuple or len(parts) != arities[word]:
        return False
    if not all([is_ascending(signature, part) for part in (*parts, families)]):
        return False
    return type(templates) is tuple and len(templates) == len(families)


def is_ascending(signature, value):
    """Return True if a value is an ascending tuple of families."""
    if type(value) is not tuple:
        return False
    if not all([type(family) is str and family in signature[1] for family in value]):
        return False
    return list(value) == sorted(set(value))


def are_founded(rows):
    """Return True if each part of a row stands as the result of an earlier row."""
    known = {}
    for word, parts, families, templates in rows:
        if not all([part in known for part in parts]):
            return False
        known[families] = True
    return True


def is_proved(signature, row):
    """Return True if the templates of a row are right and need no more than its parts have."""
    word, parts, families, templates = row
    for family, template in zip(families, templates):
        rule = (family, word, template)
        if not check_rule(signature, rule) or not are_within(needs(signature, rule), parts):
            return False
    return True
