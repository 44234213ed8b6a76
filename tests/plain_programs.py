"""What parts 10 to 12 of the document say, worked out in the plainest way, for comparing."""

import itertools

from drafts import family_of_place, makers_for, variable_places, with_pattern
from plain_goals import is_plain_model, plainly_fails, plainly_solves
from reference import (
    is_plain_signature, is_plain_template, is_plain_term, is_plain_type, is_plain_word, maker_named, maker_variables,
    plain_unifier)
from samples import nodes_of, replaced, same, variables_of


def plain_height(value):
    return 0 if type(value) is str else 1 + max([plain_height(part) for part in value[1:]], default=0)


def heads_of(program, makers_alone):
    """Return a dict from names to families of results and of arguments."""
    heads = {maker[0]: (maker[1], [part[0] for part in maker[3]]) for maker in program[0][2]}
    if not makers_alone:
        heads.update({word: (result[0], [part[0] for part in arguments]) for word, arguments, result, _ in program[1]})
    return heads


def is_plain_expression(heads, family, value, names):
    """Return True if any value is a pattern or expression; its variables go into a list of pairs."""
    if type(value) is str:
        names.append((value, family))
        return is_plain_word(value)
    if type(value) is not tuple or not value or type(value[0]) is not str or value[0] not in heads:
        return False
    result, below = heads[value[0]]
    if result != family or len(value) != len(below) + 1:
        return False
    return all(is_plain_expression(heads, lower, part, names) for lower, part in zip(below, value[1:]))


def is_plain_function(signature, value):
    """Return True if any value is a function apart from its clauses, by the words of point 10.2."""
    if type(value) is not tuple or len(value) != 4 or not is_plain_word(value[0]):
        return False
    word, arguments, result, clauses = value
    if type(arguments) is not tuple or len(arguments) not in (1, 2, 3) or type(clauses) is not tuple:
        return False
    types = arguments + (result,)
    if not all(is_plain_type(signature[0], signature[1], part) and nodes_of(part[1]) <= 6 for part in types):
        return False
    found = variables_of([index for family, index in types])
    return found == list(range(len(found))) and len(found) <= 4 and len(clauses) <= 6


def is_plain_program(value):
    """Return True if any value is a program, by the words of points 10.1 to 10.3."""
    if type(value) is not tuple or len(value) != 2 or not is_plain_signature(value[0]) or type(value[1]) is not tuple:
        return False
    signature, functions = value
    if len(functions) > 4 or not all(is_plain_function(signature, function) for function in functions):
        return False
    names = [function[0] for function in functions] + [maker[0] for maker in signature[2]]
    if len(set(names)) != len(names):
        return False
    for word, arguments, result, clauses in functions:
        for clause in clauses:
            if type(clause) is not tuple or len(clause) != 2 or type(clause[0]) is not tuple:
                return False
            if len(clause[0]) != len(arguments):
                return False
            own, used = [], []
            rows = zip(arguments, clause[0])
            if not all(is_plain_expression(heads_of(value, True), part[0], pattern, own) for part, pattern in rows):
                return False
            if not is_plain_expression(heads_of(value, False), result[0], clause[1], used):
                return False
            if len({name for name, family in own}) != len(own) or not set(used) <= set(own):
                return False
            if max(plain_height(pattern) for pattern in clause[0]) > 3 or plain_height(clause[1]) > 5:
                return False
    return True


def plain_matched(pattern, value, found):
    """Return True if a value has the form of a pattern; what stands for its variables goes into a dict."""
    if type(pattern) is str:
        found[pattern] = value
        return True
    if type(value) is str or pattern[0] != value[0]:
        return False
    return all(plain_matched(part, below, found) for part, below in zip(pattern[1:], value[1:]))


def plain_fit(signature, many, types, patterns):
    """Return what fit must return, by the words of point 10.5."""
    names = [many]
    equations, rows = [], []

    def go(family, index, pattern):
        if type(pattern) is str:
            rows.append((pattern, family, index))
            return
        maker = maker_named(signature, pattern[0])
        fresh = {variable: names[0] + k for k, variable in enumerate(maker_variables(maker))}
        names[0] += len(fresh)
        equations.append((index, replaced(maker[2], fresh)))
        for argument, part in zip(maker[3], pattern[1:]):
            go(argument[0], replaced(argument[1], fresh), part)

    for (family, index), pattern in zip(types, patterns):
        go(family, index, pattern)
    found = plain_unifier(equations)
    if found is None:
        return None
    terms = [replaced(variable, found) for variable in range(many)]
    indices = [replaced(index, found) for variable, family, index in rows]
    order = {old: new for new, old in enumerate(variables_of(terms + indices))}
    rows = tuple((row[0], row[1], replaced(index, order)) for row, index in zip(rows, indices))
    return tuple(replaced(term, order) for term in terms), rows


def function_named(program, word):
    return [function for function in program[1] if function[0] == word][0]


def count_of(function):
    return len(variables_of([index for family, index in function[1] + (function[2],)]))


def is_right_tree(program, function, allowed, patterns, value):
    """Return True if any value is a right tree of splits, by the words of point 11.1."""
    signature = program[0]
    if type(value) is not tuple or not value or type(value[0]) is not str:
        return False
    if value[0] == "clause":
        if len(value) != 2 or type(value[1]) is not int or value[1] not in allowed:
            return False
        return all(plain_matched(one, two, {}) for one, two in zip(function[3][value[1]][0], patterns))
    fitted = plain_fit(signature, count_of(function), function[1], patterns)
    if value[0] == "clash":
        return len(value) == 1 and fitted is None
    if value[0] == "empty":
        if len(value) != 2 or fitted is None or not is_plain_model(signature, value[1]):
            return False
        return plainly_fails(signature, value[1], [(family, index) for variable, family, index in fitted[1]])
    if value[0] != "split" or len(value) != 3 or type(value[1]) is not tuple or type(value[2]) is not tuple:
        return False
    place = value[1]
    if not all(type(number) is int for number in place) or place not in variable_places(patterns):
        return False
    makers = makers_for(signature, family_of_place(signature, function, patterns, place))
    if len(makers) != len(value[2]):
        return False
    for maker, below in zip(makers, value[2]):
        names = tuple("new" + str((place, k)) for k in range(len(maker[3])))
        if not is_right_tree(program, function, allowed, with_pattern(patterns, place, (maker[0],) + names), below):
            return False
    return True


def is_plain_input(program, function, value):
    """Return True if any value is a well-typed input of a function."""
    if type(value) is not tuple or len(value) != len(function[1]):
        return False
    rows = list(zip(function[1], value))
    if not all(is_plain_template(program[0], family, 0, part) for (family, index), part in rows):
        return False
    return plainly_solves(program[0], function[1], value)


def plain_first(function, values):
    """Return the number of the first clause that matches, or None."""
    for k, (patterns, body) in enumerate(function[3]):
        if all(plain_matched(pattern, value, {}) for pattern, value in zip(patterns, values)):
            return k
    return None


def is_pair(value):
    return type(value) is tuple and len(value) == 2 and type(value[0]) is str


def is_right_cover(program, word, value):
    """Return True if any value is a right cover paper, by the words of point 11.2."""
    function = function_named(program, word)
    if is_pair(value) and value[0] == "covered":
        patterns = tuple("top" + str(k) for k in range(len(function[1])))
        return is_right_tree(program, function, range(len(function[3])), patterns, value[1])
    if is_pair(value) and value[0] == "missing":
        return is_plain_input(program, function, value[1]) and plain_first(function, value[1]) is None
    return False


def is_right_reach(program, word, k, value):
    """Return True if any value is a right reach paper, by the words of point 11.3."""
    function = function_named(program, word)
    if is_pair(value) and value[0] == "useless":
        return is_right_tree(program, function, range(k), function[3][k][0], value[1])
    if is_pair(value) and value[0] == "used":
        return is_plain_input(program, function, value[1]) and plain_first(function, value[1]) == k
    return False


def head_of(program, word):
    """Return the variables, the index and the indices of the arguments of a maker or a function."""
    for name, family, head, arguments in program[0][2]:
        if name == word:
            indices = [index for lower, index in arguments]
            return sorted(variables_of([head] + indices)), head, indices
    _, arguments, result, _ = function_named(program, word)
    indices = [index for family, index in arguments]
    return sorted(variables_of(indices + [result[1]])), result[1], indices


def is_right_part(program, rows, expression, wanted, value):
    """Return True if any value is a right body paper for an expression and a term, by point 12.2."""
    if type(expression) is str:
        return same(value, expression) and rows[expression] == wanted
    if type(value) is not tuple or len(value) != 3 or not same(value[0], expression[0]):
        return False
    names, head, indices = head_of(program, expression[0])
    word, terms, parts = value
    if type(terms) is not tuple or len(terms) != len(names) or type(parts) is not tuple or len(parts) != len(indices):
        return False
    if not all(is_plain_term(program[0][0], term) for term in terms):
        return False
    chosen = dict(zip(names, terms))
    if replaced(head, chosen) != wanted:
        return False
    asked = [replaced(index, chosen) for index in indices]
    return all(is_right_part(program, rows, *row) for row in zip(expression[1:], asked, parts))


def wanted_index(program, word, k):
    """Return the wanted index of a clause and the indices of its variables, or None if its patterns do not fit."""
    function = function_named(program, word)
    fitted = plain_fit(program[0], count_of(function), function[1], function[3][k][0])
    if fitted is None:
        return None
    wanted = replaced(function[2][1], dict(enumerate(fitted[0])))
    return wanted, {variable: index for variable, family, index in fitted[1]}


def is_right_body(program, word, k, value):
    """Return True if any value is a right body paper for a clause."""
    found = wanted_index(program, word, k)
    if found is None:
        return False
    return is_right_part(program, found[1], function_named(program, word)[3][k][1], found[0], value)


def has_plain_body(program, word, k):
    """Return True if a clause whose patterns fit has a right body paper, by unification with constants."""
    wanted, rows = wanted_index(program, word, k)
    constants = {variable: ("constant" + str(variable),) for variable in variables_of([wanted] + list(rows.values()))}
    names = itertools.count(1000)
    equations = []

    def go(expression, index):
        if type(expression) is str:
            equations.append((index, replaced(rows[expression], constants)))
            return
        own, head, indices = head_of(program, expression[0])
        fresh = {variable: next(names) for variable in own}
        equations.append((index, replaced(head, fresh)))
        for part, below in zip(expression[1:], indices):
            go(part, replaced(below, fresh))

    go(function_named(program, word)[3][k][1], replaced(wanted, constants))
    return plain_unifier(equations) is not None
