"""Unification of index terms (part 2)."""

from casefamilies.terms import shifted, substituted, tidied, variables, write_term


class Classes:
    """The parts of terms as numbered nodes, put into classes that must become the same term.

    Each class is known by one of its nodes, its chief. The word and the parts of a class are
    kept there, and the least of its variables, by which the class is called if it has no word.
    """

    def __init__(self):
        self.above = []
        self.shapes = []
        self.names = []
        self.leaves = {}
        self.built = {}

    def node(self, term):
        """Return the node of a term: a new one, or that of a variable that is known."""
        if type(term) is tuple:
            return self.added((term[0],) + tuple([self.node(part) for part in term[1:]]), None)
        if term not in self.leaves:
            self.leaves[term] = self.added(None, term)
        return self.leaves[term]

    def added(self, shape, name):
        """Return a new node, which is alone in its class."""
        node = len(self.above)
        self.above.append(node)
        self.shapes.append(shape)
        self.names.append(name)
        return node

    def chief(self, node):
        """Return the chief of the class of a node."""
        while self.above[node] != node:
            self.above[node] = self.above[self.above[node]]
            node = self.above[node]
        return node

    def merge(self, one, two):
        """Put two classes together, and those of their parts; return False if two words clash."""
        waiting = [(one, two)]
        while waiting:
            one, two = waiting.pop()
            one, two = self.chief(one), self.chief(two)
            if one == two:
                continue
            here, there = self.shapes[one], self.shapes[two]
            self.tie(one, two)
            if here is not None and there is not None:
                if here[0] != there[0]:
                    return False
                waiting.extend(list(zip(here[1:], there[1:])))
        return True

    def tie(self, one, two):
        """Make the first of two chiefs the chief of both classes."""
        self.above[two] = one
        if self.shapes[one] is None:
            self.shapes[one] = self.shapes[two]
        names = [self.names[chief] for chief in (one, two) if self.names[chief] is not None]
        self.names[one] = min(names, default=None)

    def term_of(self, node):
        """Return the term that the class of a node becomes, or None if it would be infinite."""
        chief = self.chief(node)
        shape = self.shapes[chief]
        if shape is None:
            return self.names[chief]
        if chief not in self.built:
            # Who comes back here on the way down finds this None: the class contains itself.
            self.built[chief] = None
            parts = [self.term_of(part) for part in shape[1:]]
            if None not in parts:
                self.built[chief] = (shape[0], *parts)
        return self.built[chief]


def unifier(equations):
    """Return the most general unifier that maps variables to lesser ones, or None."""
    classes = Classes()
    for one, two in equations:
        if not classes.merge(classes.node(one), classes.node(two)):
            return None
    found = {}
    for variable, node in classes.leaves.items():
        term = classes.term_of(node)
        if term is None:
            return None
        if term != variable:
            found[variable] = term
    return found


def match(p, t):
    """Return the substitution of the variables of p that makes it t, or None."""
    found = {}
    waiting = [(p, t)]
    while waiting:
        one, two = waiting.pop()
        if type(one) is int:
            if found.setdefault(one, two) != two:
                return None
        elif type(two) is int or one[0] != two[0]:
            return None
        else:
            waiting.extend(list(zip(one[1:], two[1:])))
    return found


def meet(p, q):
    """Return the tidy term whose instances are the common instances of two terms, or None."""
    found = unifier([(p, shifted(q, max(variables(p), default=-1) + 1))])
    return None if found is None else tidied((substituted(p, found),))[0]


def join(p, q):
    """Return the tidy term with the fewest instances of which both terms are instances."""
    return joined(p, q, {})


def joined(p, q, names):
    """Return the join of two terms, where pairs of parts that differ have the same name always."""
    if type(p) is tuple and type(q) is tuple and p[0] == q[0]:
        return (p[0],) + tuple([joined(one, two, names) for one, two in zip(p[1:], q[1:])])
    # Terms may be nested too deep for a key: their texts stand for them.
    return names.setdefault((write_term(p), write_term(q)), len(names))


def same_up_to_names(p, q):
    """Return True if each of two terms is an instance of the other."""
    return match(p, q) is not None and match(q, p) is not None
