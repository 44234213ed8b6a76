"""Calls, how their arguments fall, and papers that they fall on each circle of calls (points 14.1 to 14.3)."""

from casefamilies.graphs import Link, are_ascending, edges_from, is_bad, is_graph, rows_from


def calls_of(program):
    """Return all calls of a program, each with where it stands and its edges."""
    names = {function[0]: True for function in program[1]}
    found = []
    for word, arguments, result, clauses in program[1]:
        for k, (patterns, body) in enumerate(clauses):
            for place, call in calls_in(names, body):
                found.append((word, k, place, call[0], edges_of(patterns, call[1:])))
    return found


def calls_in(names, body):
    """Return the calls in an expression behind their places, in ascending order of these."""
    found = []
    waiting = [((), body)]
    while waiting:
        place, part = waiting.pop()
        if type(part) is tuple:
            if part[0] in names:
                found.append((place, part))
            waiting.extend([((*place, k), below) for k, below in enumerate(part[1:])])
    return sorted(found, key=lambda row: row[0])


def edges_of(patterns, arguments):
    """Return the ascending tuple of the edges of a call with arguments in a clause with patterns."""
    found = []
    for i, pattern in enumerate(patterns):
        for j, argument in enumerate(arguments):
            if argument == pattern:
                found.append((i, j, 0))
            elif has_part(pattern, argument):
                found.append((i, j, 1))
    return tuple(found)


def has_part(pattern, wanted):
    """Return True if a pattern has a part, other than the whole, that is equal to an expression."""
    waiting = [pattern]
    while waiting:
        part = waiting.pop()
        if type(part) is tuple:
            if wanted in part[1:]:
                return True
            waiting.extend(part[1:])
    return False


def then(first, second):
    """Return the graph of two graphs one behind the other."""
    found = {}
    for i, j, a in first[2]:
        for start, k, b in second[2]:
            if start == j:
                pair = (i, k)
                found[pair] = max(found.get(pair, 0), a, b)
    return (first[0], second[1], tuple(sorted([(i, k, falls) for (i, k), falls in found.items()])))


def descent_paper(program):
    """Return a right descent paper."""
    links = links_of(calls_of(program), widths_of(program))
    # Each path is kept with the path before it and the number of its last call.
    known = {}
    for n, link in enumerate(links):
        known.setdefault(link.path(), (None, n))
    steps = [(n, links[n]) for path, (before, n) in known.items()]
    waiting = list(known)
    while waiting:
        longer = []
        for path in waiting:
            if is_bad(path):
                return ("circle", walk_to(known, path))
            for n, link in steps:
                if link.caller == path[1] and link.behind(path) not in known:
                    known[link.behind(path)] = (path, n)
                    longer.append(link.behind(path))
        waiting = longer
    return ("falls", tuple(sorted([(f, g, edges_from(rows)) for f, g, rows in known])))


def widths_of(program):
    """Return a dict from the names of the functions of a program to the numbers of their arguments."""
    return {function[0]: len(function[1]) for function in program[1]}


def links_of(calls, widths):
    """Return the calls as links."""
    return [Link(call, widths[call[0]]) for call in calls]


def walk_to(known, path):
    """Return the tuple of the numbers of the calls by which a path was found."""
    walk = []
    while path is not None:
        path, n = known[path]
        walk.append(n)
    return tuple(walk[::-1])


def check_descent(program, value):
    """Return True if a value is a right descent paper."""
    if type(value) is not tuple or len(value) != 2 or type(value[0]) is not str:
        return False
    links = links_of(calls_of(program), widths_of(program))
    if value[0] == "falls":
        return are_closed(links, widths_of(program), value[1])
    if value[0] == "circle":
        return is_circle(links, value[1])
    return False


def are_closed(links, widths, value):
    """Return True if a value is an ascending tuple of graphs that no call leads out of, and none is bad."""
    if type(value) is not tuple or not all([is_graph(widths, graph) for graph in value]):
        return False
    paths = {(f, g, rows_from(edges, widths[f])): True for f, g, edges in value}
    if not are_ascending(value) or any([is_bad(path) for path in paths]):
        return False
    steps = {link.path(): link for link in links}
    if not all([path in paths for path in steps]):
        return False
    for path in paths:
        following = [link.behind(path) for link in steps.values() if link.caller == path[1]]
        if not all([longer in paths for longer in following]):
            return False
    return True


def is_circle(links, value):
    """Return True if a value is a walk along calls that comes back, and no argument falls by it."""
    if type(value) is not tuple or not value:
        return False
    if not all([type(n) is int and 0 <= n < len(links) for n in value]):
        return False
    path = links[value[0]].path()
    for n in value[1:]:
        if links[n].caller != path[1]:
            return False
        path = links[n].behind(path)
    return is_bad(path)


def all_fall(program):
    """Return True if arguments fall on each circle of calls."""
    return descent_paper(program)[0] == "falls"
