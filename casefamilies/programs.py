"""Programs: functions by cases over a signature (points 10.1 to 10.4)."""

from casefamilies.errors import Unknown
from casefamilies.signatures import are_numbered, is_signature, is_type
from casefamilies.terms import is_word, size, variables_in

MOST_FUNCTIONS = 4
MOST_ARGUMENTS = 3
MOST_CLAUSES = 6
MOST_NODES = 6
TALLEST_PATTERN = 3
TALLEST_BODY = 5


def is_program(value):
    """Return True if a value is a program."""
    if type(value) is not tuple or len(value) != 2 or not is_signature(value[0]):
        return False
    signature, functions = value
    if type(functions) is not tuple or len(functions) > MOST_FUNCTIONS:
        return False
    if not all([is_declared(signature, function) for function in functions]):
        return False
    names = [part[0] for part in (*signature[2], *functions)]
    if len(set(names)) != len(names):
        return False
    makers = maker_shapes(signature)
    shapes = all_shapes(value)
    return all([is_clause(makers, shapes, function, clause) for function in functions for clause in function[3]])


def is_declared(signature, value):
    """Return True if a value has a name, arguments and a result as a function has them, and some clauses."""
    if type(value) is not tuple or len(value) != 4:
        return False
    word, arguments, result, clauses = value
    if not is_word(word) or type(arguments) is not tuple or not 1 <= len(arguments) <= MOST_ARGUMENTS:
        return False
    types = (*arguments, result)
    if not all([is_type(signature[0], signature[1], part) for part in types]):
        return False
    indices = [part[1] for part in types]
    if max([size(index) for index in indices]) > MOST_NODES or not are_numbered(variables_in(indices)):
        return False
    return type(clauses) is tuple and len(clauses) <= MOST_CLAUSES


def maker_shapes(signature):
    """Return a dict from the names of the makers to their families and the tuples of those of their arguments."""
    return {word: (family, tuple([part[0] for part in arguments])) for word, family, head, arguments in signature[2]}


def all_shapes(program):
    """Return a dict from the names of makers and functions to the families of results and of arguments."""
    shapes = maker_shapes(program[0])
    for word, arguments, result, clauses in program[1]:
        shapes[word] = (result[0], tuple([part[0] for part in arguments]))
    return shapes


def is_clause(makers, shapes, function, value):
    """Return True if a value is a clause of a function."""
    if type(value) is not tuple or len(value) != 2:
        return False
    patterns, body = value
    if type(patterns) is not tuple or len(patterns) != len(function[1]):
        return False
    asked = [(part[0], pattern, TALLEST_PATTERN) for part, pattern in zip(function[1], patterns)]
    found = variable_rows(makers, asked)
    used = variable_rows(shapes, [(function[2][0], body, TALLEST_BODY)])
    if found is None or used is None:
        return False
    names = {variable: family for variable, family in found}
    return len(names) == len(found) and all([names.get(variable) == family for variable, family in used])


def variable_rows(shapes, asked):
    """Return the variables of patterns or expressions, each with the family that it stands for, or None.

    A row of what is asked has a family, any value, and the greatest height that is allowed; the
    result is None if a value is no pattern or expression of its family, or too high.
    """
    found = []
    waiting = list(asked)
    while waiting:
        family, value, left = waiting.pop()
        if is_word(value):
            found.append((value, family))
        elif left > 0 and is_call(shapes, family, value):
            below = shapes[value[0]][1]
            waiting.extend([(lower, part, left - 1) for lower, part in zip(below, value[1:])])
        else:
            return None
    return found


def is_call(shapes, family, value):
    """Return True if a value is a tuple that begins with a name, of a family, and has as many parts as this asks."""
    if type(value) is not tuple or not value or type(value[0]) is not str or value[0] not in shapes:
        return False
    result, arguments = shapes[value[0]]
    return result == family and len(value) == len(arguments) + 1


def function_of(program, word):
    """Return the function of a name."""
    for function in program[1]:
        if function[0] == word:
            return function
    raise Unknown("there is no function of this name")


def matched(patterns, values):
    """Return the values of the variables for which patterns become some values, or None.

    Patterns may stand in the place of the values: their variables are matched by variables only.
    """
    found = {}
    waiting = list(zip(patterns, values))
    while waiting:
        pattern, value = waiting.pop()
        if type(pattern) is str:
            found[pattern] = value
        elif type(value) is str or pattern[0] != value[0]:
            return None
        else:
            waiting.extend(list(zip(pattern[1:], value[1:])))
    return found


def first_clause(program, word, values):
    """Return the number of the first clause of a function that matches values, or None."""
    for k, (patterns, body) in enumerate(function_of(program, word)[3]):
        if matched(patterns, values) is not None:
            return k
    return None


def count_variables(function):
    """Return the number of the variables in the types of a function."""
    return len(variables_in([part[1] for part in (*function[1], function[2])]))
