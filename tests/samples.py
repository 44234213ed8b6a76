"""Signatures for the tests, and makers of random ones."""

import random

NUMBERS = (("zero", 0), ("succ", 1))
TREES = (("leaf", 0), ("node", 2))

# Vectors and bounded numbers: the signature V of the document.
V = (NUMBERS, ("fin", "vec"), (
    ("first", "fin", ("succ", 0), ()),
    ("more", "fin", ("succ", 0), (("fin", 0),)),
    ("nil", "vec", ("zero",), ()),
    ("cons", "vec", ("succ", 0), (("fin", ("succ", 1)), ("vec", 0)))))

# Expressions with the kind of their result; the kind of an argument is a further variable.
EXPR = ((("nat", 0), ("bool", 0), ("void", 0), ("arrow", 2)), ("expr",), (
    ("null", "expr", ("nat",), ()),
    ("true", "expr", ("bool",), ()),
    ("keep", "expr", ("arrow", 0, 1), (("expr", 1),)),
    ("apply", "expr", 0, (("expr", ("arrow", 1, 0)), ("expr", 1)))))

PARITY = (NUMBERS, ("odd", "even", "never"), (
    ("none", "even", ("zero",), ()),
    ("up", "odd", ("succ", 0), (("even", 0),)),
    ("upper", "even", ("succ", 0), (("odd", 0),)),
    ("stuck", "never", 0, (("never", 0),))))

# Trees whose two sides are of one form, of any height.
FORMS = (TREES, ("left", "right", "both"), (
    ("lone", "both", ("leaf",), ()),
    ("onleft", "left", ("node", 0, 1), (("both", 0), ("both", 1))),
    ("twice", "right", ("node", 0, 1), (("left", 1), ("right", ("node", 1, 1)))),
    ("start", "right", ("node", 0, 1), (("left", 0),)),
    ("mixed", "both", 0, (("left", ("node", 0, 1)), ("right", ("node", 1, 0))))))

# Arguments at greater indices than the head: what holds above comes down.
DOWN = ((("zero", 0), ("succ", 1), ("stop", 1)), ("down", "mark"), (
    ("here", "mark", ("stop", 0), ()),
    ("again", "mark", ("succ", 0), (("mark", 0),)),
    ("fall", "down", 0, (("mark", ("succ", ("succ", 0))),)),
    ("far", "down", ("zero",), (("mark", ("succ", 0)), ("mark", 0)))))

# The last four steps, newest first: each of the 16 tuples of families is a profile.
STEPS = ("fa", "fb", "fc", "fd")
REGISTER = ((("z", 0), ("s", 1), ("t", 1), ("p", 2)), STEPS, (
    ("new", "fa", ("t", 0), ()),
    ("sb", "fb", ("s", 0), (("fa", 0),)),
    ("tb", "fb", ("t", 0), (("fa", 0),)),
    ("sc", "fc", ("s", 0), (("fb", 0),)),
    ("tc", "fc", ("t", 0), (("fb", 0),)),
    ("sd", "fd", ("s", 0), (("fc", 0),)),
    ("td", "fd", ("t", 0), (("fc", 0),)),
    ("pd", "fd", ("p", 0, 1), (("fa", 0), ("fc", ("s", 1)), ("fb", ("t", 2))))))

# Index sets with no, one and two terms, and with all terms but one.
COUNTED = (NUMBERS, ("no", "one", "two", "great"), (
    ("low", "two", ("zero",), ()),
    ("start", "one", ("zero",), ()),
    ("next", "two", ("succ", 0), (("one", 0),)),
    ("third", "great", ("succ", 0), (("two", 0), ("two", 1))),
    ("higher", "great", ("succ", 0), (("great", 0),)),
    ("turn", "no", 0, (("no", ("succ", 0)),))))

EMPTY = ((("zero", 0),), ("none",), ())

NAMED = [V, EXPR, PARITY, FORMS, DOWN, COUNTED, REGISTER, EMPTY]


def number(n):
    """Return the closed term of a number."""
    term = ("zero",)
    for _ in range(n):
        term = ("succ", term)
    return term


def bounded(n):
    """Return the value of fin that is n steps above the first one."""
    value = ("first",)
    for _ in range(n):
        value = ("more", value)
    return value


def vector(n):
    """Return a value of vec with n entries."""
    value = ("nil",)
    for k in range(n):
        value = ("cons", ("first",), value)
    return value


def random_term(rng, constructors, many, nodes):
    """Return a term with at most so many nodes, and variables below many."""
    if many and rng.random() < 0.3:
        return rng.randrange(many)
    fitting = [pair for pair in constructors if pair[1] < nodes]
    word, arity = rng.choice(fitting)
    left = nodes - 1
    parts = []
    for k in range(arity):
        share = left - (arity - 1 - k)
        part = random_term(rng, constructors, many, rng.randint(1, share))
        left -= nodes_of(part)
        parts.append(part)
    return (word, *parts)


def nodes_of(term):
    return 1 if type(term) is int else 1 + sum(nodes_of(part) for part in term[1:])


def variables_of(terms):
    """Return the different variables of terms from the left."""
    found = []
    for term in terms:
        for variable in [term] if type(term) is int else variables_of(term[1:]):
            if variable not in found:
                found.append(variable)
    return found


def replaced(term, names):
    """Return a term with its variables replaced."""
    if type(term) is int:
        return names.get(term, term)
    return (term[0],) + tuple(replaced(part, names) for part in term[1:])


def random_maker(rng, name, constructors, families, nodes):
    """Return a maker with at most 3 variables."""
    while True:
        word, arity = rng.choice(constructors)
        head = 0 if rng.random() < 0.2 else (word, *range(arity))
        arguments = [(rng.choice(families), random_term(rng, constructors, 3, rng.randint(1, nodes)))
                     for _ in range(rng.choice([0, 1, 1, 2, 3]))]
        found = variables_of([head] + [index for family, index in arguments])
        if len(found) <= 3:
            names = {old: new for new, old in enumerate(found)}
            arguments = tuple([(family, replaced(index, names)) for family, index in arguments])
            return (name, rng.choice(families), replaced(head, names), arguments)


def random_signature(seed):
    """Return a signature that a number chooses."""
    rng = random.Random(seed)
    many = rng.randint(1, 3)
    arities = [0] + [rng.choice([0, 1, 1, 2]) for _ in range(many)]
    rng.shuffle(arities)
    constructors = tuple(zip(rng.sample(["a", "b", "ab", "zero", "succ", "pair"], many + 1), arities))
    families = tuple(rng.sample(["f", "g", "h", "fg"], rng.randint(1, 4)))
    names = ["m" + letter for letter in "abcdefgh"][:rng.randint(2, 8)]
    nodes = rng.choice([2, 3, 4, 6])
    makers = tuple([random_maker(rng, name, constructors, families, nodes) for name in names])
    return (constructors, families, makers)


def lively_signature(seed):
    """Return a signature that a number chooses, in which most families have many values."""
    rng = random.Random(seed)
    constructors = rng.choice([NUMBERS, TREES, (("a", 0), ("b", 0), ("c", 2)),
                               (("a", 0), ("b", 1), ("c", 1), ("d", 2))])
    families = ("f", "g", "h")[:rng.randint(1, 3)]
    makers = []
    for k in range(rng.randint(5, 8)):
        # Each family has a maker without arguments.
        family = families[k] if k < len(families) else rng.choice(families)
        while True:
            name, _, head, arguments = random_maker(rng, "m" + "abcdefgh"[k], constructors, families, 3)
            if k >= len(families) or not arguments:
                break
        makers.append((name, family, 0 if rng.random() < 0.3 and not arguments else head, arguments))
    return (constructors, families, tuple(makers))


def random_goal(rng, signature, most, nodes=5):
    """Return a goal with at most so many types and 3 variables."""
    return tuple((rng.choice(signature[1]), random_term(rng, signature[0], 3, rng.randint(1, nodes)))
                 for _ in range(rng.randint(0, most)))


def instances(term, closed):
    """Return the closed terms that a term becomes with closed terms of a list for its variables."""
    found = [term]
    for variable in variables_of([term]):
        found = [replaced(part, {variable: leaf}) for part in found for leaf in closed]
    return found


def structure_mutants(paper):
    """Return papers with an item left out, put in twice, put behind, or in a list, at any depth."""
    found = [list(paper), paper + paper[-1:], paper[:-1], (paper,), None]
    for k, item in enumerate(paper):
        found.append(paper[:k] + paper[k + 1:])
        found.append(paper[:k] + (item,) + paper[k:])
        if paper[k:k + 1] * 2 != paper[k:k + 2] and k + 1 < len(paper):
            found.append(paper[:k] + (paper[k + 1], item) + paper[k + 2:])
        if type(item) is tuple:
            found.extend([paper[:k] + (part,) + paper[k + 1:] for part in structure_mutants(item)])
        else:
            others = [None, True, False, 0, -1, 1.0, "", "zz", "a\n", b"a", [item], (item,), {}]
            found.extend([paper[:k] + (part,) + paper[k + 1:] for part in others if not same(part, item)])
    return [mutant for mutant in found if not same(mutant, paper)]


class Agreeable:
    """A thing of no form at all that says that it is equal to everything."""

    def __eq__(self, other):
        return True

    def __hash__(self):
        return 0


def agreeable_mutants(paper):
    """Return papers with a thing in the place of an item, at any depth, that claims to be equal to it."""
    found = []
    for k, item in enumerate(paper):
        found.append(paper[:k] + (Agreeable(),) + paper[k + 1:])
        if type(item) is tuple:
            found.extend([paper[:k] + (part,) + paper[k + 1:] for part in agreeable_mutants(item)])
    return found


def same(one, two):
    """Return True if two things are equal, and of the same kinds throughout."""
    if type(one) is not type(two):
        return False
    if type(one) in (tuple, list):
        return len(one) == len(two) and all(same(a, b) for a, b in zip(one, two))
    return one == two


ODDITIES = [
    None, True, False, 0, 1, -1, 2.0, 10 ** 30, "", "a", "ab\n", "A", "a b", b"a", [], {}, set(), (), ((),),
    ("a",), ["a"], ("a", 0), (("a", 0),), [("a", 0)], ("a", ("b",)), (0,), (0, 1), (None,), (True,), object(),
    object, len, float("nan"), ((("a", 0),), ("f",), ()), ("zero",), ("succ", True), ("succ", 0), {"a": 1},
    range(3), frozenset(), ("nil",), ["nil"], (("nil",),), "nil", ("x", [])]
