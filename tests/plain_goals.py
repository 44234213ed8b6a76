"""What parts 7 to 9 of the document say, worked out in the plainest way, for comparing."""

import itertools

from reference import is_closed, is_plain_template, is_right_derivation, maker_named, maker_variables, plain_unifier
from reference import values_up_to
from samples import nodes_of, replaced, variables_of


def state_in(signature, model, term, states):
    """Return the state of a term in a model, by the words of point 7.1."""
    if type(term) is int:
        return states[term]
    at = [pair[0] for pair in signature[0]].index(term[0])
    parts = [state_in(signature, model, part, states) for part in term[1:]]
    places = {0: lambda: 0, 1: lambda: parts[0], 2: lambda: parts[0] * model[0] + parts[1]}
    return model[1][at][places[len(parts)]()]


def holds_in(signature, model, family, index, states):
    """Return True if the state of an index is in the set of a family."""
    return state_in(signature, model, index, states) in model[2][list(signature[1]).index(family)]


def is_plain_model(signature, value):
    """Return True if any value is a model, by the words of point 7.1."""
    if type(value) is not tuple or len(value) != 3 or type(value[0]) is not int or not 1 <= value[0] <= 16:
        return False
    n, tables, sets = value
    if type(tables) is not tuple or type(sets) is not tuple:
        return False
    for part in tables + sets:
        if type(part) is not tuple or not all(type(state) is int and state in range(n) for state in part):
            return False
    lengths = [n ** arity for word, arity in signature[0]]
    if [len(table) for table in tables] != lengths or len(sets) != len(signature[1]):
        return False
    if any(list(part) != sorted(set(part)) for part in sets):
        return False
    for name, family, head, arguments in signature[2]:
        for choice in itertools.product(range(n), repeat=len(maker_variables((name, family, head, arguments)))):
            if all(holds_in(signature, value, lower, index, choice) for lower, index in arguments):
                if not holds_in(signature, value, family, head, choice):
                    return False
    return True


def plainly_fails(signature, model, goal):
    """Return True if a goal fails in a model, by trying all states, one variable after the other."""
    names = variables_of([index for family, index in goal])
    due = {k: [] for k in range(-1, len(names))}
    for family, index in goal:
        due[max([names.index(name) for name in variables_of([index])], default=-1)].append((family, index))

    def holds(k, states):
        return all(holds_in(signature, model, family, index, states) for family, index in due[k])

    def found(k, states):
        if not holds(k - 1, states):
            return False
        return k == len(names) or any(found(k + 1, {**states, names[k]: state}) for state in range(model[0]))

    return not found(0, {})


def is_right_answer(signature, goal, value, derivation):
    """Return True if any value is a right answer, by the words of point 7.2."""
    if type(value) is not tuple or not value or type(value[0]) is not str:
        return False
    if value[0] == "empty":
        return len(value) == 2 and is_plain_model(signature, value[1]) and plainly_fails(signature, value[1], goal)
    if value[0] != "full" or len(value) != 3 or type(value[1]) is not tuple or type(value[2]) is not tuple:
        return False
    chosen = {}
    for pair in value[1]:
        if type(pair) is not tuple or len(pair) != 2 or type(pair[0]) is not int:
            return False
        if not is_closed(signature[0], pair[1]):
            return False
        chosen[pair[0]] = pair[1]
    if [pair[0] for pair in value[1]] != sorted(variables_of([index for family, index in goal])):
        return False
    if len(value[2]) != len(goal):
        return False
    for (family, index), part in zip(goal, value[2]):
        if not is_plain_template(signature, family, 0, part):
            return False
        asked = replaced(index, chosen)
        found = derivation(signature, part, asked)
        if found is None or not is_right_derivation(signature, part, asked, found):
            return False
    return True


def index_equations(signature, value, index, names):
    """Return what must hold for the variables of all makers of a value for it to have an index.

    The list of names has one variable, with the number that is free next.
    """
    maker = maker_named(signature, value[0])
    fresh = {variable: names[0] + k for k, variable in enumerate(maker_variables(maker))}
    names[0] += len(fresh)
    found = [(index, replaced(maker[2], fresh))]
    for argument, part in zip(maker[3], value[1:]):
        found += index_equations(signature, part, replaced(argument[1], fresh), names)
    return found


def plainly_solves(signature, goal, values):
    """Return True if values of the right families solve a goal, by the words of point 8.1."""
    names = [max(variables_of([index for family, index in goal]), default=-1) + 1]
    equations = []
    for (family, index), value in zip(goal, values):
        equations += index_equations(signature, value, index, names)
    return plain_unifier(equations) is not None


def plain_solutions(signature, goal, most):
    """Return all solutions of a goal with a total weight up to a bound."""
    pools = values_up_to(signature, most)
    rows = [()]
    for family, index in goal:
        rows = [row + (value,) for row in rows for value in pools[family]
                if sum(map(nodes_of, row)) + nodes_of(value) <= most]
    return [row for row in rows if plainly_solves(signature, goal, row)]


def plain_index(signature, value):
    """Return the general index of a value with its variables renamed, or None."""
    found = plain_unifier(index_equations(signature, value, 0, [1]))
    if found is None:
        return None
    index = replaced(0, found)
    return replaced(index, {old: new for new, old in enumerate(variables_of([index]))})
