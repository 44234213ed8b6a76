"""Programs for the tests, and makers of random ones."""

import random

from samples import V, random_signature, random_term, replaced, variables_of

LETTERS = "abcdefghijklmnopqrstuvw"

# The greatest number below the length of a vector that is not empty: the program P of the document.
P = (V, (("place", (("vec", ("succ", 0)),), ("fin", ("succ", 0)), (
    ((("cons", "a", ("nil",)),), ("first",)),
    ((("cons", "a", ("cons", "b", "ys")),), ("more", ("place", ("cons", "b", "ys")))))),))


def makers_for(signature, family):
    return [maker for maker in signature[2] if maker[1] == family]


def random_pattern(rng, signature, family, height, chance, names):
    """Return a pattern of a family with at most a height; its variables are taken from a list of names."""
    makers = makers_for(signature, family)
    if height == 0 or not makers or rng.random() >= chance:
        return names.pop(0)
    maker = rng.choice(makers)
    return (maker[0],) + tuple(random_pattern(rng, signature, part[0], height - 1, chance, names) for part in maker[3])


def random_body(rng, program, names, family, height):
    """Return an expression of a family with at most a height over variables, or None if none was found."""
    variables = [name for name, lower in names.items() if lower == family]
    heads = [(maker[0], maker[3]) for maker in makers_for(program[0], family)]
    heads += [(function[0], function[1]) for function in program[1] if function[2][0] == family]
    if height == 0 or not heads or (variables and rng.random() < 0.4):
        return rng.choice(variables) if variables else None
    rng.shuffle(heads)
    for word, arguments in heads:
        parts = [random_body(rng, program, names, part[0], height - 1) for part in arguments]
        if None not in parts:
            return (word,) + tuple(parts)
    return None


def names_of(signature, family, pattern):
    """Return a dict from the variables of a pattern to their families."""
    if type(pattern) is str:
        return {pattern: family}
    maker = [maker for maker in signature[2] if maker[0] == pattern[0]][0]
    found = {}
    for argument, part in zip(maker[3], pattern[1:]):
        found.update(names_of(signature, argument[0], part))
    return found


def random_function(rng, signature, name, many, nodes):
    """Return a function without clauses."""
    types = [(rng.choice(signature[1]), random_term(rng, signature[0], 3, rng.randint(1, nodes)))
             for _ in range(many + 1)]
    found = variables_of([index for family, index in types])
    names = {old: new for new, old in enumerate(found)}
    types = [(family, replaced(index, names)) for family, index in types]
    return (name, tuple(types[:-1]), types[-1], ())


def split_patterns(rng, signature, function, many):
    """Return tuples of patterns that come from the variables by random splits; one may be lost."""
    whole = [tuple(LETTERS[k] for k in range(len(function[1])))]
    for _ in range(many):
        # A family without makers leaves nothing where it is split.
        at = rng.randrange(max(len(whole), 1))
        places = [place for part in whole[at:at + 1] for place in variable_places(part) if len(place) <= 3]
        if not places:
            continue
        place = rng.choice(places)
        family = family_of_place(signature, function, whole[at], place)
        below = [with_pattern(whole[at], place, (maker[0],) + ("x",) * len(maker[3]))
                 for maker in makers_for(signature, family)]
        whole = whole[:at] + below + whole[at + 1:]
    rng.shuffle(whole)
    return [renamed(patterns, list(LETTERS) + [a + b for a in LETTERS for b in LETTERS]) for patterns in whole]


def renamed(patterns, names):
    return tuple(names.pop(0) if type(part) is str else (part[0],) + renamed(part[1:], names) for part in patterns)


def variable_places(patterns):
    found = []
    for k, part in enumerate(patterns):
        found += [(k,)] if type(part) is str else [(k,) + place for place in variable_places(part[1:])]
    return found


def with_pattern(patterns, place, pattern):
    k = place[0]
    if len(place) > 1:
        pattern = (patterns[k][0],) + with_pattern(patterns[k][1:], place[1:], pattern)
    return patterns[:k] + (pattern,) + patterns[k + 1:]


def family_of_place(signature, function, patterns, place):
    family, pattern = function[1][place[0]][0], patterns[place[0]]
    for number in place[1:]:
        maker = [maker for maker in signature[2] if maker[0] == pattern[0]][0]
        family, pattern = maker[3][number][0], pattern[number + 1]
    return family


def random_program(seed, signature=None, arguments=3, height=3, chance=0.6, most=6):
    """Return a program that a number chooses."""
    rng = random.Random(seed)
    signature = signature or random_signature(seed)
    functions = tuple(random_function(rng, signature, name, rng.randint(1, arguments), 4)
                      for name in ["run", "walk", "rest"][:rng.randint(1, 3)])
    whole = []
    for function in functions:
        if rng.random() < 0.5:
            rows = split_patterns(rng, signature, function, rng.randint(0, 4))[:most]
        else:
            rows = []
        while len(rows) < rng.randint(0, most):
            names = list(LETTERS) + [a + b for a in LETTERS for b in LETTERS]
            rows.insert(rng.randint(0, len(rows)), tuple(
                random_pattern(rng, signature, part[0], height, chance, names) for part in function[1]))
        clauses = []
        for patterns in rows:
            names = {}
            for part, pattern in zip(function[1], patterns):
                names.update(names_of(signature, part[0], pattern))
            body = random_body(rng, (signature, functions), names, function[2][0], 3)
            if body is not None:
                clauses.append((patterns, body))
        whole.append(function[:3] + (tuple(clauses),))
    return (signature, tuple(whole))
