"""Evaluation of closed expressions, step by step, and the types of calls (part 13)."""

from casefamilies.places import put_below, put_values
from casefamilies.programs import count_variables, first_clause, function_of, matched
from casefamilies.terms import substituted, tidied
from casefamilies.values import general_index, is_solution, part_at, unified


def step(program, expression):
    """Return a closed expression with a body in the place of its next call, or None if this cannot be."""
    place = next_place(function_names(program), expression)
    return None if place is None else stepped(program, expression, place)


def function_names(program):
    """Return a dict with the names of the functions of a program as its keys."""
    return {function[0]: True for function in program[1]}


def next_place(names, expression):
    """Return the place of the next call of a closed expression, or None if it has no call."""
    for k, part in enumerate(expression[1:]):
        place = next_place(names, part)
        if place is not None:
            return (k, *place)
    return () if expression[0] in names else None


def stepped(program, expression, place):
    """Return a closed expression with a body in the place of the call at a place, or None if no clause matches."""
    call = part_at(expression, place)
    k = first_clause(program, call[0], call[1:])
    if k is None:
        return None
    patterns, body = function_of(program, call[0])[3][k]
    return put_below(expression, place, put_values(body, matched(patterns, call[1:])))


def run(program, expression, most):
    """Take steps, as many as are allowed, and return what comes first: a value, a stuck call, or more steps."""
    names = function_names(program)
    n = 0
    while True:
        place = next_place(names, expression)
        if place is None:
            return ("value", expression, n)
        further = stepped(program, expression, place)
        if further is None:
            call = part_at(expression, place)
            return ("stuck", call[0], call[1:], n)
        if n == most:
            return ("more", expression)
        expression = further
        n += 1


def typed_call(program, word, values):
    """Return True if a tuple of values is a well-typed input of a function."""
    return is_solution(program[0], function_of(program, word)[1], values)


def result_index(program, word, values):
    """Return the tidy term that the index of a function's result becomes for a well-typed input."""
    function = function_of(program, word)
    generals = [general_index(program[0], value) for value in values]
    found = unified(function[1], generals, count_variables(function), [])
    return tidied((substituted(function[2][1], found),))[0]
