"""The well-typed values of each weight, in groups of those that have the same general index."""

from casefamilies.signatures import families_below, goal_variables, maker_variables
from casefamilies.terms import shifted, substituted, tidied, variables, write_term
from casefamilies.unify import unifier


class Group:
    """The values of a family and a weight that have one general index.

    A way is a maker's name and a tuple of groups, one for each argument: the values of these, put
    behind the name in all combinations, are values of the group.
    """

    def __init__(self, term):
        self.term = term
        self.width = len(variables(term))
        self.ways = []
        self.number = 0
        self.first = None

    def gain(self, word, parts):
        """Take a way in."""
        self.ways.append((word, parts))
        self.number += combinations_of(parts)
        least = (word, *[part.first for part in parts])
        if self.first is None or least < self.first:
            self.first = least

    def listed(self):
        """Return all values of the group."""
        found = []
        for word, parts in self.ways:
            found.extend([(word, *below) for below in tuples_from(parts)])
        return found


def combinations_of(parts):
    """Return the number of the tuples that have a value of each of some groups."""
    many = 1
    for part in parts:
        many = many * part.number
    return many


def tuples_from(parts):
    """Return the tuples that have a value of each of some groups."""
    found = [()]
    for part in parts:
        offered = part.listed()
        found = [(*start, value) for start in found for value in offered]
    return found


class Groups:
    """The groups of the values that goals over some families need, one weight after the other."""

    def __init__(self, signature, goal):
        self.families = sorted(set([below for family, index in goal for below in families_below(signature, family)]))
        self.makers = [maker for maker in signature[2] if maker[1] in self.families]
        self.rows = [{family: [] for family in self.families}]

    def grow(self, weight):
        """Find the groups of all weights up to one."""
        while len(self.rows) <= weight:
            self.rows.append(self.next_row())

    def next_row(self):
        """Return the groups of the first weight that is not there yet, by their families."""
        found = {family: {} for family in self.families}
        for maker in self.makers:
            types = maker[3]
            for parts, unified in self.solving(types, len(maker_variables(maker)), len(self.rows) - 1):
                index = tidied((substituted(maker[2], unified),))[0]
                group = found[maker[1]].setdefault(write_term(index), Group(index))
                group.gain(maker[0], parts)
        return {family: list(named.values()) for family, named in found.items()}

    def solving(self, types, far, weight):
        """Return the tuples of groups with a total weight whose values fit some types together.

        Each comes with the unifier of the indices of the types and those of the groups, whose
        variables are numbered from far on.
        """
        found = [((), [], far, weight, {})]
        for k, (family, index) in enumerate(types):
            rest = len(types) - 1 - k
            found = [longer for start in found for longer in self.extended(start, family, index, rest)]
        return [(parts, unified) for parts, equations, top, left, unified in found if left == 0]

    def solving_goal(self, goal, weight):
        """Return the tuples of groups with a total weight whose values solve a goal."""
        self.grow(weight - len(goal) + 1)
        far = max(goal_variables(goal), default=-1) + 1
        return [parts for parts, unified in self.solving(goal, far, weight)]

    def extended(self, start, family, index, rest):
        """Return the starts with one more group, which leaves weight for as many as are still to come."""
        parts, equations, far, left, _ = start
        found = []
        for weight in range(1 if rest > 0 else max(left, 1), left - rest + 1):
            for group in self.rows[weight][family]:
                longer = equations + [(index, shifted(group.term, far))]
                unified = unifier(longer)
                if unified is not None:
                    found.append(((*parts, group), longer, far + group.width, left - weight, unified))
        return found
