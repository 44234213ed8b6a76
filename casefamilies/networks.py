"""Choices of states for the variables of a goal, by which each of its types holds.

The parts of the indices are numbered nodes, equal parts the same one. A relation is a pair of a
tuple of nodes and a dict: its keys are the tuples of states that these nodes may have together,
each with a cost. The nodes are taken away one after the other, those with the fewest neighbours
first: so goals with many variables can be asked, as long as each type has few in common with others.
"""


class Network:
    """The nodes of the indices of a goal, and the families that their states must have.

    The table and the members are those of states.py. The pool is the list of the states that a
    variable may have. Prices are a dict from states, and from tuples of a family and a state or a
    row of the table, to what a variable of the state costs, and a value of the family there.
    """

    def __init__(self, table, members, pool, prices):
        self.table = table
        self.members = members
        self.pool = pool
        self.prices = prices
        self.nodes = {}
        self.asked = []
        self.domains = []

    def enter(self, term):
        """Return the node of a term."""
        key = term if type(term) is int else (term[0], *[self.enter(part) for part in term[1:]])
        if key not in self.nodes:
            self.nodes[key] = len(self.nodes)
            self.asked.append([])
        return self.nodes[key]

    def ask(self, family, index):
        """Enter a type that must hold."""
        self.asked[self.enter(index)].append(family)

    def relations(self):
        """Return the relations between the nodes that may have several states, or None if a node has none."""
        found = []
        # The parts of a node were entered before it: their states are known.
        for key, node in self.nodes.items():
            scope, rows = self.leaf(node) if type(key) is int else self.branch(key, node)
            if not rows:
                return None
            self.domains.append(list({row[-1]: True for row in rows}))
            free = [k for k, part in enumerate(scope) if len(self.domains[part]) > 1]
            if free:
                kept = {tuple([row[k] for k in free]): cost for row, cost in rows.items()}
                found.append((tuple([scope[k] for k in free]), kept))
        return found

    def leaf(self, node):
        """Return the relation of the node of a variable."""
        rows = {}
        for state in self.pool:
            if self.has_families(node, state):
                costs = [self.prices.get((family, state), 0) for family in self.asked[node]]
                rows[(state,)] = self.prices.get(state, 0) + sum(costs)
        return (node,), rows

    def branch(self, key, node):
        """Return the relation of the node of a term with a word, and of its different parts."""
        parts = list({part: True for part in key[1:]})
        rows = {}
        for choice in self.choices(parts):
            row = (key[0], *[choice[parts.index(part)] for part in key[1:]])
            state = self.table[row]
            if self.has_families(node, state):
                costs = [self.prices.get((family, *row), 0) for family in self.asked[node]]
                rows[choice + (state,)] = sum(costs)
        return (*parts, node), rows

    def choices(self, parts):
        """Return all tuples of states that nodes may have, each by itself."""
        found = [()]
        for part in parts:
            found = [(*start, state) for start in found for state in self.domains[part]]
        return found

    def has_families(self, node, state):
        """Return True if a state has all families that are asked of a node."""
        return all([(family, state) in self.members for family in self.asked[node]])


def chosen_states(table, members, pool, goal, prices):
    """Return states for the variables of a goal by which all types hold, the cheapest ones, or None."""
    network = Network(table, members, pool, prices)
    for family, index in goal:
        network.ask(family, index)
    relations = network.relations()
    found = None if relations is None else solved_relations(relations)
    if found is None:
        return None
    variables = {key: node for key, node in network.nodes.items() if type(key) is int}
    return {variable: found.get(node, network.domains[node][0]) for variable, node in variables.items()}


def solved_relations(relations):
    """Return states for all nodes of relations that agree with each of them, the cheapest, or None."""
    steps = []
    waiting = list(relations)
    while waiting:
        node = least_bound(waiting)
        near = [relation for relation in waiting if node in relation[0]]
        waiting = [relation for relation in waiting if node not in relation[0]]
        step = without(all_joined(near), node)
        if not step[2]:
            return None
        steps.append(step)
        if step[1]:
            waiting.append((step[1], {rest: cost for rest, (cost, state) in step[2].items()}))
    states = {}
    for node, scope, best in reversed(steps):
        rest = tuple([states[other] for other in scope])
        states[node] = best[rest][1]
    return states


def least_bound(relations):
    """Return a node that has the fewest neighbours."""
    near = {}
    for scope, rows in relations:
        for node in scope:
            known = near.setdefault(node, {})
            for other in scope:
                known[other] = True
    return min(list(near), key=lambda node: len(near[node]))


def all_joined(relations):
    """Return the relation that tells what several relations tell together."""
    found = relations[0]
    for relation in relations[1:]:
        found = joined_relations(found, relation)
    return found


def joined_relations(one, two):
    """Return the relation that tells what two relations tell together."""
    shared = [node for node in two[0] if node in one[0]]
    here = [one[0].index(node) for node in shared]
    there = [two[0].index(node) for node in shared]
    fresh = [k for k, node in enumerate(two[0]) if node not in one[0]]
    partners = {}
    for row, cost in two[1].items():
        meeting = tuple([row[k] for k in there])
        partners.setdefault(meeting, []).append((tuple([row[k] for k in fresh]), cost))
    rows = {}
    for row, cost in one[1].items():
        for more, extra in partners.get(tuple([row[k] for k in here]), []):
            rows[row + more] = cost + extra
    return one[0] + tuple([two[0][k] for k in fresh]), rows


def without(relation, node):
    """Return a node, the other nodes of a relation, and for each choice of their states the best of the node's.

    The best one comes with its cost.
    """
    scope, rows = relation
    at = scope.index(node)
    best = {}
    for row, cost in rows.items():
        rest = row[:at] + row[at + 1:]
        if rest not in best or cost < best[rest][0]:
            best[rest] = (cost, row[at])
    return node, scope[:at] + scope[at + 1:], best
