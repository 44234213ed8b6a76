"""Checks of trees of splits, and of the papers that they stand in (points 11.1 to 11.3)."""

from casefamilies.fits import fit_function, rows_goal
from casefamilies.models import fails_in, has_model_form, keeps_makers
from casefamilies.places import family_at, split_at
from casefamilies.programs import first_clause, function_of, matched
from casefamilies.values import is_solution


def check_cover(program, word, value):
    """Return True if a value is a right cover paper for a function."""
    function = function_of(program, word)
    if not is_paper(value):
        return False
    if value[0] == "covered":
        patterns = tuple([str(k) for k in range(len(function[1]))])
        return is_tree(program[0], function, len(function[3]), patterns, value[1])
    if value[0] == "missing":
        return is_solution(program[0], function[1], value[1]) and first_clause(program, word, value[1]) is None
    return False


def check_reach(program, word, k, value):
    """Return True if a value is a right reach paper for the clause k of a function."""
    function = function_of(program, word)
    if not is_paper(value):
        return False
    if value[0] == "used":
        return is_solution(program[0], function[1], value[1]) and first_clause(program, word, value[1]) == k
    if value[0] == "useless":
        return is_tree(program[0], function, k, function[3][k][0], value[1])
    return False


def is_paper(value):
    """Return True if a value is a pair of a string and something else."""
    return type(value) is tuple and len(value) == 2 and type(value[0]) is str


def is_tree(signature, function, allowed, patterns, value):
    """Return True if a value is a right tree of splits for patterns.

    The clauses before the number allowed are allowed.
    """
    models = []
    waiting = [(patterns, value)]
    while waiting:
        patterns, tree = waiting.pop()
        if type(tree) is not tuple or not tree or type(tree[0]) is not str:
            return False
        if tree[0] == "split":
            below = branches_of(signature, function, patterns, tree)
            if below is None:
                return False
            waiting.extend(below)
        elif not is_leaf(signature, function, allowed, patterns, tree, models):
            return False
    return True


def branches_of(signature, function, patterns, tree):
    """Return the trees below a split, each with its patterns, or None if the split is wrong."""
    if len(tree) != 3 or type(tree[1]) is not tuple or type(tree[2]) is not tuple:
        return None
    if not all([type(number) is int for number in tree[1]]):
        return None
    family = family_at(signature, function[1], patterns, tree[1])
    if family is None:
        return None
    below = split_at(signature, patterns, tree[1], family)
    return list(zip(below, tree[2])) if len(below) == len(tree[2]) else None


def is_leaf(signature, function, allowed, patterns, tree, models):
    """Return True if a tuple that begins with a string is a right tree without splits for patterns.

    The list models has models that are known to be right; another one that is right is put into it.
    """
    if tree[0] == "clause" and len(tree) == 2:
        k = tree[1]
        return type(k) is int and 0 <= k < allowed and matched(function[3][k][0], patterns) is not None
    if tree[0] == "clash" and len(tree) == 1:
        return fit_function(signature, function, patterns) is None
    if tree[0] == "empty" and len(tree) == 2:
        found = fit_function(signature, function, patterns)
        if found is None or not is_known_model(signature, tree[1], models):
            return False
        return fails_in(signature, tree[1], rows_goal(found[1]))
    return False


def is_known_model(signature, value, models):
    """Return True if a value is a model, which is put into a list of known ones."""
    if not has_model_form(signature, value):
        return False
    if value not in models:
        if not keeps_makers(signature, value):
            return False
        models.append(value)
    return True
