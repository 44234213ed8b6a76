"""Solutions of the goals over a signature, found from the profiles of the closed terms."""

from casefamilies.networks import chosen_states
from casefamilies.recipes import Kitchen, ways_after, ways_at
from casefamilies.signatures import tidied_goal
from casefamilies.states import least_states, tuples_of
from casefamilies.terms import variables, write_term


class Witness:
    """A closed term, with the ways to make values at it (see recipes.py) and the size of both."""

    def __init__(self, term, ways, nodes):
        self.term = term
        self.ways = ways
        self.nodes = nodes
        self.bulk = nodes + sum([plan.cost for plan in ways.values()])


class Solver:
    """What is needed to solve goals over a signature, worked out once for many goals."""

    def __init__(self, signature):
        self.signature = signature
        self.states = least_states(signature)
        self.solvable = {}
        self.recipes = {}
        self.witnesses = {}
        self.prices = {}

    def profile_states(self, goal):
        """Return states for the variables of a goal that solve it, or None if it has no solution."""
        return chosen_states(self.states.table, self.states.members, self.states.masks, goal, self.prices)

    def has_solution(self, goal):
        """Return True if a goal has a solution."""
        for numbers in unlinked(goal):
            if not self.part_has_solution(tidied_goal([goal[k] for k in numbers])):
                return False
        return True

    def part_has_solution(self, goal):
        """Return True if a tidied goal has a solution, which is worked out once."""
        # Terms may be nested too deep for a key: their texts stand for them.
        name = " ".join([family + " " + write_term(index) for family, index in goal])
        if name not in self.solvable:
            self.solvable[name] = self.profile_states(goal) is not None
        return self.solvable[name]

    def solution(self, goal):
        """Return closed terms for the variables of a goal that has a solution, and values for its types."""
        self.prepare()
        chosen = {variable: self.witnesses[mask] for variable, mask in self.profile_states(goal).items()}
        terms = {variable: witness.term for variable, witness in chosen.items()}
        ways = {variable: witness.ways for variable, witness in chosen.items()}
        plans = [ways_at(self.recipes, index, ways)[family] for family, index in goal]
        return terms, tuple([plan.written({}) for plan in plans])

    def prepare(self):
        """Work out what only solutions need: a closed term for each state, and what values cost there."""
        if self.prices:
            return
        self.recipes = Kitchen(self.signature).recipes
        self.find_witnesses()
        for mask, witness in self.witnesses.items():
            self.prices[mask] = witness.nodes
            for family, plan in witness.ways.items():
                self.prices[(family, mask)] = plan.cost
        for row in self.states.table:
            below = [self.witnesses[mask].ways for mask in row[1:]]
            for family, plan in ways_after(self.recipes[row[0]], below).items():
                asked = (family, *row)
                self.prices[asked] = plan.cost

    def find_witnesses(self):
        """Find for each state a closed term that is small and has small values."""
        changed = True
        while changed:
            changed = False
            for row, mask in self.states.table.items():
                if all([part in self.witnesses for part in row[1:]]):
                    found = self.witness_on_top(row)
                    if mask not in self.witnesses or found.bulk < self.witnesses[mask].bulk:
                        self.witnesses[mask] = found
                        changed = True

    def witness_on_top(self, row):
        """Return the witness for a row of the table that is made of those of its parts."""
        below = [self.witnesses[mask] for mask in row[1:]]
        ways = ways_after(self.recipes[row[0]], [part.ways for part in below])
        nodes = 1 + sum([part.nodes for part in below])
        return Witness((row[0], *[part.term for part in below]), ways, nodes)

    def model(self):
        """Return the model whose states are the profiles: each goal without a solution fails in it."""
        masks = list(self.states.masks)
        tables = []
        for word, arity in self.signature[0]:
            rows = [(word, *parts) for parts in tuples_of(masks, arity)]
            tables.append(tuple([masks.index(self.states.table[row]) for row in rows]))
        bits = [self.states.bit(family) for family in self.signature[1]]
        sets = [tuple([k for k, mask in enumerate(masks) if mask & bit]) for bit in bits]
        return (len(masks), tuple(tables), tuple(sets))


def unlinked(goal):
    """Return the parts of a goal that have no variables in common, each as a list of the numbers of its types."""
    parts = {}
    owners = {}
    names = [variables(index) for family, index in goal]
    for k in range(len(names)):
        near = sorted(set([owners[variable] for variable in names[k] if variable in owners]))
        parts[k] = [number for other in near for number in parts.pop(other)] + [k]
        for number in parts[k]:
            for variable in names[number]:
                owners[variable] = k
    return list(parts.values())
