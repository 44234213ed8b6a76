"""The check of case trees (point 15.1)."""

from casefamilies.inputs import Viewer


def check_tree(program, word, value):
    """Return True if a value is a case tree for a function that is right at the top."""
    if not is_plain(value):
        return False
    viewer = Viewer(program, word)
    view = viewer.top()
    if view is None:
        return value == ("never",)
    # The same trees stand again and again in a large one: they are checked once.
    seen = {}
    waiting = [(view, value)]
    while waiting:
        view, tree = waiting.pop()
        known = seen.setdefault(view.label(), [])
        if tree not in known:
            known.append(tree)
            below = views_below(viewer, view, tree)
            if below is None:
                return False
            waiting.extend(below)
    return True


def is_plain(value):
    """Return True if a value is made of tuples, integers and strings alone, so that == tells the truth."""
    waiting = [value]
    while waiting:
        part = waiting.pop()
        if type(part) is tuple:
            waiting.extend(part)
        elif type(part) is not int and type(part) is not str:
            return False
    return True


def views_below(viewer, view, tree):
    """Return the trees right below a plain value, each behind its view, or None if the value is wrong there."""
    if type(tree) is not tuple or tree[:1] != ("look",):
        return [] if tree == viewer.end_of(view) else None
    if len(tree) != 3 or tree[1] not in view.places() or type(tree[2]) is not tuple:
        return None
    if not all([type(pair) is tuple and len(pair) == 2 for pair in tree[2]]):
        return None
    found = viewer.branches(view, tree[1])
    if [maker for maker, below in found] != [maker for maker, below in tree[2]]:
        return None
    return [(row[1], pair[1]) for row, pair in zip(found, tree[2])]
