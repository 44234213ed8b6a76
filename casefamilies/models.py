"""Finite models of a signature, and goals that fail in them (point 7.1)."""

from casefamilies.networks import chosen_states
from casefamilies.signatures import maker_variables
from casefamilies.states import breaches, state_at, tuples_of

MOST_STATES = 16


def is_model(signature, value):
    """Return True if a value is a model for a signature."""
    return has_model_form(signature, value) and keeps_makers(signature, value)


def has_model_form(signature, value):
    """Return True if a value has states, tables and sets as a model has them."""
    if type(value) is not tuple or len(value) != 3:
        return False
    n, tables, sets = value
    if type(n) is not int or not 1 <= n <= MOST_STATES:
        return False
    if type(tables) is not tuple or type(sets) is not tuple or len(sets) != len(signature[1]):
        return False
    if not all([are_states(n, part) for part in (*tables, *sets)]):
        return False
    sizes = (1, n, n * n)
    if [len(table) for table in tables] != [sizes[arity] for word, arity in signature[0]]:
        return False
    return all([list(states) == sorted(set(states)) for states in sets])


def are_states(n, value):
    """Return True if a value is a tuple of numbers of n states."""
    return type(value) is tuple and all([type(state) is int and 0 <= state < n for state in value])


def keeps_makers(signature, model):
    """Return True if no maker leads out of the sets of what has the form of a model."""
    table, members = rows_of(signature, model), members_of(signature, model)
    states = list(range(model[0]))
    for maker in signature[2]:
        if breaches(maker, [states] * len(maker_variables(maker)), table, members):
            return False
    return True


def rows_of(signature, model):
    """Return the tables of a model as a dict, as states.py has it."""
    states = list(range(model[0]))
    rows = {}
    for (word, arity), table in zip(signature[0], model[1]):
        for parts, state in zip(tuples_of(states, arity), table):
            row = (word, *parts)
            rows[row] = state
    return rows


def members_of(signature, model):
    """Return the sets of a model as a dict, as states.py has it."""
    return {(family, state): True for family, states in zip(signature[1], model[2]) for state in states}


def state_of(signature, model, term, states):
    """Return the state of a term in a model, where those of its variables are given."""
    return state_at(rows_of(signature, model), term, states)


def fails_in(signature, model, goal):
    """Return True if no choice of states for the variables of a goal lets all its types hold."""
    pool = list(range(model[0]))
    return chosen_states(rows_of(signature, model), members_of(signature, model), pool, goal, {}) is None
