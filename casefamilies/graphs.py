"""Graphs of calls as rows, so that many of them are put behind each other soon (points 14.2 and 14.3).

The rows of a graph are a tuple that has for each argument of the first function the ascending tuple
of the pairs (j, falls) of its edges. A path is a tuple of the names of two functions and such rows.
"""


class Link:
    """A call as the last step of a path. What it makes of a row is worked out once."""

    def __init__(self, call, many):
        self.caller = call[0]
        self.called = call[3]
        self.rows = rows_from(call[4], many)
        self.known = {}

    def path(self):
        """Return the path of the call alone."""
        return (self.caller, self.called, self.rows)

    def behind(self, path):
        """Return a path with the call behind it."""
        return (path[0], self.called, tuple([self.row_behind(row) for row in path[2]]))

    def row_behind(self, row):
        """Return the row that a row becomes."""
        if row not in self.known:
            self.known[row] = row_then(row, self.rows)
        return self.known[row]


def rows_from(edges, many):
    """Return the rows of some edges, for a function with so many arguments."""
    return tuple([tuple([(j, falls) for i, j, falls in edges if i == k]) for k in range(many)])


def edges_from(rows):
    """Return the edges of some rows."""
    return tuple([(i, j, falls) for i, row in enumerate(rows) for j, falls in row])


def row_then(row, rows):
    """Return the row that leads by a row, and then by the rows of a graph."""
    found = {}
    for j, a in row:
        for k, b in rows[j]:
            found[k] = max(found.get(k, 0), a, b)
    return tuple(sorted([(k, falls) for k, falls in found.items()]))


def is_bad(path):
    """Return True if the graph of a path is circular and no argument falls back to itself by it."""
    if path[0] != path[1]:
        return False
    rows = path[2]
    if any([(i, 1) in row for i, row in enumerate(rows)]):
        return False
    return all([row == row_then(row, rows) for row in rows])


def is_graph(widths, value):
    """Return True if a value is a graph of functions, whose numbers of arguments are given by their names."""
    if type(value) is not tuple or len(value) != 3:
        return False
    if not all([type(word) is str and word in widths for word in value[:2]]) or type(value[2]) is not tuple:
        return False
    here, there = widths[value[0]], widths[value[1]]
    if not all([is_edge(here, there, edge) for edge in value[2]]):
        return False
    return are_ascending([edge[:2] for edge in value[2]])


def is_edge(here, there, value):
    """Return True if a value is a triple for functions with so many arguments."""
    if type(value) is not tuple or len(value) != 3 or not all([type(part) is int for part in value]):
        return False
    return 0 <= value[0] < here and 0 <= value[1] < there and 0 <= value[2] <= 1


def are_ascending(rows):
    """Return True if each item of a list or tuple is less than the next one."""
    return all([one < two for one, two in zip(rows, rows[1:])])
