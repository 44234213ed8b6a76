"""Numbers of values and of solutions, and the ranks of values (points 9.1 and 9.2)."""

from casefamilies.errors import NotThere
from casefamilies.groups import Groups, combinations_of
from casefamilies.lightest import values_of
from casefamilies.terms import size, write_term
from casefamilies.unify import meet
from casefamilies.values import family_of, general_index, weight


def index_classes(signature, family, n):
    """Return the general indices of the values of weight n of a family, in order, each with their number."""
    if n < 1:
        return []
    groups = Groups(signature, ((family, 0),))
    groups.grow(n)
    rows = [(size(group.term), write_term(group.term), group.term, group.number) for group in groups.rows[n][family]]
    return [(term, number) for many, text, term, number in sorted(rows)]


def count_values(signature, family, index, n):
    """Return the number of the values of weight n that fit a type."""
    return count_solutions(signature, ((family, index),), n)


def count_solutions(signature, goal, n):
    """Return the number of the solutions of a goal of the total weight n."""
    return sum([combinations_of(parts) for parts in Groups(signature, goal).solving_goal(goal, n)])


def rank(signature, family, index, value):
    """Return the number of the values that fit a type, weigh as much as a value and come before it."""
    general = general_index(signature, value)
    if family_of(signature, value) != family or general is None or meet(general, index) is None:
        raise NotThere("the value does not fit the type")
    return values_of(signature, family, index, weight(value)).index(value)


def unrank(signature, family, index, n, k):
    """Return the value of weight n that fits a type and has the rank k."""
    found = values_of(signature, family, index, n)
    if not 0 <= k < len(found):
        raise NotThere("no value has this rank")
    return found[k]
