"""Programs for the tests of evaluation, descent, soundness, case trees and workbooks."""

import random

from drafts import P, makers_for, names_of, random_body, random_pattern, random_program, split_patterns
from samples import EMPTY, EXPR, NAMED, PARITY, V, lively_signature, replaced, variables_of

FIRST = ("first",)
NIL = ("nil",)
ZERO = ("o",)

# Numbers without a bound, lists of them that know their length, and places in such lists.
PLAIN = ((("any", 0), ("up", 1)), ("nat", "list", "fin"), (
    ("o", "nat", ("any",), ()),
    ("s", "nat", ("any",), (("nat", ("any",)),)),
    ("end", "list", ("any",), ()),
    ("put", "list", ("up", 0), (("nat", ("any",)), ("list", 0))),
    ("here", "fin", ("up", 0), ()),
    ("there", "fin", ("up", 0), (("fin", 0),))))
NAT = ("nat", ("any",))


def program_of(signature, *functions):
    return (signature, tuple(functions))


# The entry of a vector at a number below its length. The index of the result says too much.
ENTRY = program_of(V, ("entry", (("vec", 0), ("fin", 0)), ("fin", 1), (
    ((("cons", "a", "xs"), FIRST), "a"),
    ((("cons", "a", "xs"), ("more", "k")), ("entry", "xs", "k")))))

# Sums and products; the product calls within a call.
SUMS = program_of(
    PLAIN,
    ("plus", (NAT, NAT), NAT, (((ZERO, "b"), "b"), ((("s", "a"), "b"), ("s", ("plus", "a", "b"))))),
    ("times", (NAT, NAT), NAT, (((ZERO, "b"), ZERO), ((("s", "a"), "b"), ("plus", "b", ("times", "a", "b"))))),
    ("sum", (("list", 0),), NAT, (((("end",),), ZERO), ((("put", "a", "r"),), ("plus", "a", ("sum", "r"))))))
# What stands at a place of a list, and lists without it.
LISTS = program_of(
    PLAIN,
    ("entry", (("list", 0), ("fin", 0)), NAT, (
        ((("put", "a", "r"), ("here",)), "a"), ((("put", "a", "r"), ("there", "k")), ("entry", "r", "k")))),
    ("without", (("list", ("up", 0)), ("fin", ("up", 0))), ("list", 0), (
        ((("put", "a", "r"), ("here",)), "r"),
        ((("put", "a", ("put", "b", "r")), ("there", "k")), ("put", "a", ("without", ("put", "b", "r"), "k"))))))

# Two functions that call each other with exchanged arguments.
TURNS = program_of(
    PLAIN,
    ("left", (NAT, NAT), NAT, (((("s", "a"), "b"), ("right", "b", "a")), ((ZERO, "b"), "b"))),
    ("right", (NAT, NAT), NAT, ((("a", ("s", "b")), ("left", "b", "a")), (("a", ZERO), "a"))))
# The arguments are exchanged in each round, and nothing falls: they are as they were after two rounds.
SPINS = program_of(
    PLAIN,
    ("left", (NAT, NAT), NAT, ((("a", "b"), ("right", "b", "a")),)),
    ("right", (NAT, NAT), NAT, ((("a", "b"), ("left", "a", "b")),)))

# The arguments fall only together: at each call one of them falls and the other stays.
TOGETHER = program_of(PLAIN, ("both", (NAT, NAT), NAT, (
    ((("s", "a"), "b"), ("both", "b", "a")), ((ZERO, ("s", "b")), ("both", ZERO, "b")), ((ZERO, ZERO), ZERO))))
# The first argument falls, or it is what it was and the second one falls.
ACKERMANN = program_of(PLAIN, ("ack", (NAT, NAT), NAT, (
    ((ZERO, "b"), ("s", "b")), ((("s", "a"), ZERO), ("ack", "a", ("s", ZERO))),
    ((("s", "a"), ("s", "b")), ("ack", "a", ("ack", ("s", "a"), "b"))))))
# The whole of an argument is handed on.
LOOP = program_of(PLAIN, ("loop", (NAT,), NAT, ((("a",), ("loop", "a")),)))
# One call falls in the first argument, and the other in the second one, where the first one grows.
GROWS = program_of(PLAIN, ("grow", (NAT, NAT), NAT, (
    ((("s", "a"), "b"), ("grow", "a", ("s", "b"))), (("a", ("s", "b")), ("grow", ("s", "a"), "b")))))
# Parts that are closed are seen again in other arguments.
CLOSED = program_of(PLAIN, ("shut", (NAT, NAT, NAT), NAT, (
    ((("s", ("s", ZERO)), ("s", ZERO), "c"), ("shut", ("s", ZERO), ZERO, ZERO)),
    ((ZERO, ZERO, ("s", "c")), ("shut", ZERO, ("s", ZERO), "c")))))

# No value of never; a number is not odd and even.
VOID = program_of(PARITY, ("lost", (("never", 0),), ("odd", 0), ()),
                  ("clash", (("odd", 0), ("even", 0)), ("never", 0), ()),
                  ("half", (("even", ("succ", 0)),), ("odd", 0), (((("upper", "a"),), "a"),)))
# A clause with the wrong patterns and one with the wrong body.
FAULTY = program_of(V, ("bad", (("vec", ("succ", 0)),), ("fin", ("succ", 0)), (
    ((NIL,), FIRST), ((("cons", "a", "b"),), "a"))))
# What is applied is never anything but a function that keeps its result.
STEP = program_of(EXPR, ("body", (("expr", ("arrow", 0, 1)),), ("expr", 1), (
    ((("keep", "a"),), "a"), ((("apply", "f", "a"),), ("apply", ("apply", "f", "a"), ("null",))))))

KNOWN = [P, ENTRY, SUMS, LISTS, TURNS, SPINS, TOGETHER, ACKERMANN, LOOP, GROWS, CLOSED, VOID, FAULTY, STEP, (EMPTY, ())]


def nat(n):
    value = ZERO
    for _ in range(n):
        value = ("s", value)
    return value


def nats(*numbers):
    value = ("end",)
    for n in numbers[::-1]:
        value = ("put", nat(n), value)
    return value


def some_program(seed, most=6):
    """Return a program that a number chooses."""
    signature = (NAMED + [None, lively_signature(seed)] * 8)[seed % 24]
    return random_program(seed, signature, arguments=2 + seed % 2, chance=[0.4, 0.7, 0.95][seed % 3], most=most)


def falling_program(seed):
    """Return a program over plain numbers in which many calls hand on parts of the patterns."""
    rng = random.Random(seed)
    words = ["f", "g", "h"][:rng.randint(1, 3)]
    widths = {word: rng.randint(1, 3) for word in words}
    functions = []
    for word in words:
        clauses = []
        for _ in range(rng.randint(1, 3)):
            names = list("abcdefghijkl")
            patterns = tuple(rng.choice([("s", ("s", names.pop(0))), ("s", names.pop(0)), names.pop(0),
                                         ("s", ZERO), ZERO]) for _ in range(widths[word]))
            body = ZERO
            for _ in range(rng.randint(0, 2)):
                called = rng.choice(words)
                handed = [rng.choice(handed_on(patterns)) for _ in range(widths[called])]
                # A call of one argument can stand around the others.
                if widths[called] == 1 and body != ZERO:
                    handed = [body]
                body = (called,) + tuple(handed)
            clauses.append((patterns, body))
        functions.append((word, (NAT,) * widths[word], NAT, tuple(clauses)))
    return (PLAIN, tuple(functions))


def split_program(seed):
    """Return a program over plain numbers and lists in which most functions are covered, with falling calls."""
    rng = random.Random(seed)
    words = ["f", "g", "h"][:rng.randint(1, 3)]
    functions = [(word, tuple(rng.choice([NAT, NAT, ("list", k)]) for k in range(rng.randint(1, 3))), NAT, ())
                 for word in words]
    functions = [(word, tidied_types(types), result, ()) for word, types, result, _ in functions]
    whole = []
    for function in functions:
        clauses = []
        for patterns in split_patterns(rng, PLAIN, function, rng.randint(1, 3))[:6]:
            names = {}
            for part, pattern in zip(function[1], patterns):
                names.update(names_of(PLAIN, part[0], pattern))
            body = random_body(rng, (PLAIN, tuple(functions)), names, "nat", 3)
            clauses.append((patterns, ZERO if body is None else body))
        whole.append(function[:3] + (tuple(clauses),))
    return (PLAIN, tuple(whole))


def tidied_types(types):
    """Return types with their variables renamed from the left."""
    names = {old: new for new, old in enumerate(variables_of([index for family, index in types]))}
    return tuple((family, replaced(index, names)) for family, index in types)


def handed_on(patterns):
    """Return the parts of patterns, and something that is none."""
    found = [("s", ZERO)]
    for pattern in patterns:
        while True:
            found += [pattern, pattern]
            if type(pattern) is str or len(pattern) == 1:
                break
            pattern = pattern[1]
    return found


def random_call(rng, program, height):
    """Return a closed expression, or None if none was found."""
    family = rng.choice(program[0][1])
    return random_body(rng, program, {}, family, height)


def light_value(signature, family, seed, height=4):
    """Return a value of a family with at most a height, or None."""
    rng = random.Random(seed)
    makers = makers_for(signature, family)
    rng.shuffle(makers)
    for maker in makers if height else []:
        parts = [light_value(signature, part[0], rng.random(), height - 1) for part in maker[3]]
        if None not in parts:
            return (maker[0],) + tuple(parts)
    return None


def expression_for(rng, program):
    """Return a closed expression where one is found, and something else otherwise."""
    calls = []
    for word, arguments, result, clauses in program[1]:
        values = [light_value(program[0], family, rng.random(), 3) for family, index in arguments]
        calls += [] if None in values else [(word, *values)]
    found = [random_call(rng, program, 2)] + calls * 2
    return rng.choice([("none", "a")] + [expression for expression in found if expression is not None] * 4)


# Families that share an index: which makers there are at one place tells which there can be at another.
SHARED = ((("z", 0), ("s", 1), ("p", 2)), ("sel", "val"), (
    ("low", "sel", ("z",), ()), ("high", "sel", ("s", 0), ()), ("wide", "sel", ("p", 0, 1), (("sel", 0), ("val", 1))),
    ("same", "sel", ("p", 0, 1), (("sel", 1),)), ("any", "val", 0, ()), ("up", "val", ("s", 0), (("val", 0),)),
    ("two", "val", ("p", 0, 1), (("val", 0), ("sel", 1))), ("down", "val", ("z",), (("val", ("s", 0)),))))


def shared_program(seed):
    """Return a program with one function, whose arguments have index variables in common."""
    rng = random.Random(seed)
    many = rng.randint(2, 3)
    indices = [rng.choice([0, 0, 0, ("p", 0, 1), ("p", 0, 0), 1, ("s", 0), ("p", 1, 0)]) for _ in range(many)]
    arguments = tidied_types([(rng.choice(["sel", "val"]), index) for index in indices])
    clauses = []
    for _ in range(rng.randint(2, 6)):
        names = ["n" + letter for letter in "abcdefghijklmnopqrstuvwxyz"]
        patterns = tuple(random_pattern(rng, SHARED, family, 2, 0.55, names) for family, index in arguments)
        clauses.append((patterns, ("any",)))
    return (SHARED, (("f", arguments, ("val", 0), tuple(clauses)),))
