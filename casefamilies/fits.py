"""Patterns at types, and what is left to find for their variables (point 10.5)."""

from casefamilies.programs import count_variables
from casefamilies.signatures import maker_variables, makers_by_name
from casefamilies.terms import shifted, substituted, tidied
from casefamilies.unify import unifier


def fit(signature, many, types, patterns):
    """Return what the variables of types become, and the rows of the variables of patterns, or None."""
    makers = makers_by_name(signature)
    equations = []
    rows = []
    far = many
    waiting = list(zip(types, patterns))[::-1]
    while waiting:
        (family, index), pattern = waiting.pop()
        if type(pattern) is str:
            rows.append((pattern, family, index))
        else:
            maker = makers[pattern[0]]
            equations.append((index, shifted(maker[2], far)))
            asked = [(lower, shifted(term, far)) for lower, term in maker[3]]
            waiting.extend(list(zip(asked, pattern[1:]))[::-1])
            far += len(maker_variables(maker))
    found = unifier(equations)
    if found is None:
        return None
    terms = [substituted(variable, found) for variable in range(many)]
    terms.extend([substituted(index, found) for variable, family, index in rows])
    named = tidied(tuple(terms))
    return named[:many], tuple([(row[0], row[1], index) for row, index in zip(rows, named[many:])])


def fit_function(signature, function, patterns):
    """Return what fit gives for patterns at the arguments of a function."""
    return fit(signature, count_variables(function), function[1], patterns)


def rows_goal(rows):
    """Return the goal that the values for the variables of rows must solve."""
    return tuple([(family, index) for variable, family, index in rows])
