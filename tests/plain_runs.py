"""What parts 13 and 14 of the document say, worked out in the plainest way, for comparing."""

from plain_goals import index_equations
from plain_programs import function_named, plain_first, plain_matched
from reference import plain_unifier
from samples import replaced, variables_of


def function_words(program):
    return [function[0] for function in program[1]]


def places_of(expression, words):
    """Return the places of the calls in an expression, a call before those in it, from the left."""
    if type(expression) is str:
        return []
    found = [()] if expression[0] in words else []
    for k, part in enumerate(expression[1:]):
        found += [(k,) + place for place in places_of(part, words)]
    return found


def at_place(expression, place):
    for k in place:
        expression = expression[k + 1]
    return expression


def put_at_place(expression, place, part):
    if not place:
        return part
    k = place[0] + 1
    return expression[:k] + (put_at_place(expression[k], place[1:], part),) + expression[k + 1:]


def with_values(expression, values):
    if type(expression) is str:
        return values[expression]
    return expression[:1] + tuple(with_values(part, values) for part in expression[1:])


def next_call(program, expression):
    """Return the place of the next call, or None, by the words of point 13.1."""
    words = function_words(program)
    for place in places_of(expression, words):
        if not any(places_of(part, words) for part in at_place(expression, place)[1:]):
            return place
    return None


def plain_step(program, expression):
    """Return what step must return."""
    place = next_call(program, expression)
    if place is None:
        return None
    call = at_place(expression, place)
    function = function_named(program, call[0])
    k = plain_first(function, call[1:])
    if k is None:
        return None
    values = {}
    for pattern, value in zip(function[3][k][0], call[1:]):
        plain_matched(pattern, value, values)
    return put_at_place(expression, place, with_values(function[3][k][1], values))


def plain_run(program, expression, most):
    """Return what run must return, by the words of point 13.2."""
    for n in range(most + 1):
        place = next_call(program, expression)
        if place is None:
            return ("value", expression, n)
        further = plain_step(program, expression)
        if further is None:
            call = at_place(expression, place)
            return ("stuck", call[0], call[1:], n)
        if n < most:
            expression = further
    return ("more", expression)


def plain_result(program, word, values):
    """Return a term that has the same instances as result_index, with any names, by the words of point 13.3."""
    _, arguments, result, _ = function_named(program, word)
    names = [max(variables_of([index for family, index in arguments] + [result[1]]), default=-1) + 1]
    equations = []
    for (family, index), value in zip(arguments, values):
        equations += index_equations(program[0], value, index, names)
    return replaced(result[1], plain_unifier(equations))


def tidy(term):
    return replaced(term, {old: new for new, old in enumerate(variables_of([term]))})


def parts_of(pattern):
    """Return the parts of a pattern other than the whole."""
    if type(pattern) is str:
        return []
    return list(pattern[1:]) + [below for part in pattern[1:] for below in parts_of(part)]


def plain_calls(program):
    """Return what calls_of must return, by the words of point 14.1."""
    found = []
    for word, arguments, result, clauses in program[1]:
        for k, (patterns, body) in enumerate(clauses):
            for place in sorted(places_of(body, function_words(program))):
                call = at_place(body, place)
                edges = [(i, j, 0) for i, p in enumerate(patterns) for j, a in enumerate(call[1:]) if a == p]
                edges += [(i, j, 1) for i, p in enumerate(patterns) for j, a in enumerate(call[1:])
                          if a in parts_of(p)]
                found.append((word, k, place, call[0], tuple(sorted(edges))))
    return found


def plain_then(first, second):
    """Return what then must return, by the words of point 14.2."""
    ways = [(i, k, max(a, b)) for i, j, a in first[2] for other, k, b in second[2] if j == other]
    pairs = {(i, k) for i, k, falls in ways}
    edges = [(i, k, max(falls for a, b, falls in ways if (a, b) == (i, k))) for i, k in pairs]
    return (first[0], second[1], tuple(sorted(edges)))


def is_plainly_bad(graph):
    """Return True if a graph is circular and has no triple (i, i, 1)."""
    if graph[0] != graph[1] or plain_then(graph, graph) != graph:
        return False
    return not any(i == j and falls == 1 for i, j, falls in graph[2])


def graphs_of_calls(program):
    return [(f, g, edges) for f, k, place, g, edges in plain_calls(program)]


def closed_graphs(program):
    """Return all graphs of one call behind the other."""
    calls = graphs_of_calls(program)
    found = set(calls)
    fresh = list(found)
    while fresh:
        graph = fresh.pop()
        for call in calls:
            if call[0] == graph[1] and plain_then(graph, call) not in found:
                found.add(plain_then(graph, call))
                fresh.append(plain_then(graph, call))
    return found


def is_plain_graph(program, value):
    """Return True if any value is a graph of functions of a program, by the words of point 14.2."""
    if type(value) is not tuple or len(value) != 3:
        return False
    f, g, edges = value
    if type(f) is not str or type(g) is not str or type(edges) is not tuple:
        return False
    if f not in function_words(program) or g not in function_words(program):
        return False
    here, there = [len(function_named(program, word)[1]) for word in (f, g)]
    for edge in edges:
        if type(edge) is not tuple or len(edge) != 3 or not all(type(part) is int for part in edge):
            return False
        if edge[0] not in range(here) or edge[1] not in range(there) or edge[2] not in (0, 1):
            return False
    return list(edges) == sorted(set(edges)) and len({edge[:2] for edge in edges}) == len(edges)


def is_right_descent(program, value):
    """Return True if any value is a right descent paper, by the words of point 14.3."""
    if type(value) is not tuple or len(value) != 2 or type(value[0]) is not str or type(value[1]) is not tuple:
        return False
    calls = graphs_of_calls(program)
    if value[0] == "falls":
        graphs = value[1]
        if not all(is_plain_graph(program, graph) for graph in graphs) or list(graphs) != sorted(set(graphs)):
            return False
        if not all(call in graphs for call in calls):
            return False
        if not all(plain_then(graph, call) in graphs for graph in graphs for call in calls if graph[1] == call[0]):
            return False
        return not any(is_plainly_bad(graph) for graph in graphs)
    if value[0] != "circle" or not value[1]:
        return False
    if not all(type(n) is int and n in range(len(calls)) for n in value[1]):
        return False
    walk = [calls[n] for n in value[1]]
    if not all(one[1] == two[0] for one, two in zip(walk, walk[1:] + walk[:1])):
        return False
    graph = walk[0]
    for call in walk[1:]:
        graph = plain_then(graph, call)
    return is_plainly_bad(graph)
