"""Trees that look at inputs only where a clause that can still match has a maker (part 15)."""

from casefamilies.inputs import Viewer
from casefamilies.values import part_at


def case_tree(program, word):
    """Return a case tree for a function that is right at the top."""
    return Planter(program, word, None).tree()


def case_tree_by(program, word, order):
    """Return the case tree for a function that looks at its arguments in an order as far as it can."""
    return Planter(program, word, {argument: k for k, argument in enumerate(order)}).tree()


class Planter:
    """What is needed to make a case tree for a function.

    The ranks tell which arguments are looked at first, if that is not free. The same trees stand
    again and again in a large one: they are made once.
    """

    def __init__(self, program, word, ranks):
        self.viewer = Viewer(program, word)
        self.ranks = ranks
        self.made = {}

    def tree(self):
        """Return a tree that is right at the top."""
        view = self.viewer.top()
        return ("never",) if view is None else self.tree_at(view)

    def tree_at(self, view):
        """Return a tree that is right at a view."""
        label = view.label()
        if label not in self.made:
            self.made[label] = self.viewer.end_of(view) or self.look_at(view)
        return self.made[label]

    def look_at(self, view):
        """Return a tree that is right at a view and begins with a look."""
        place = useful_place(view) if self.ranks is None else first_place(view, self.ranks)
        branches = self.viewer.branches(view, place)
        return ("look", place, tuple([(maker, self.tree_at(below)) for maker, below in branches]))


def first_place(view, ranks):
    """Return the place of a look that comes first by the ranks of the arguments."""
    return min([(ranks[place[0]], place) for place in view.places()])[1]


def useful_place(view):
    """Return a place where the first clause has a maker, and as many others as can be."""
    wanted = view.open_gaps[min(list(view.open_gaps))]
    counts = [(-len([k for k, asked in view.open_gaps.items() if place in asked]), place) for place in wanted]
    return min(counts)[1]


def run_tree(tree, values):
    """Return the number of the clause that a right tree takes for a well-typed input, or None."""
    end = way_through(tree, values)[-1]
    return end[1] if end[0] == "take" else None


def looked_at(tree, values):
    """Return the places at which a right tree looks for a well-typed input, in their order."""
    return [part[1] for part in way_through(tree, values)[:-1]]


def way_through(tree, values):
    """Return the trees that a well-typed input comes to, from the top to the end."""
    way = [tree]
    while tree[0] == "look":
        maker = part_at(values[tree[1][0]], tree[1][1:])[0]
        tree = [below for name, below in tree[2] if name == maker][0]
        way.append(tree)
    return way


def most_looks(tree):
    """Return the greatest number of looks on a way from the top of a tree to a leaf."""
    most = 0
    waiting = [(tree, 0)]
    while waiting:
        part, looks = waiting.pop()
        most = max(most, looks)
        if part[0] == "look":
            waiting.extend([(below, looks + 1) for maker, below in part[2]])
    return most
