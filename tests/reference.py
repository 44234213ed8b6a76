"""What the document says, worked out in the plainest way, for comparing."""

import itertools
import re

from samples import nodes_of, replaced, same, variables_of


def plain_unifier(equations):
    """Return some most general unifier by putting one variable after the other away, or None."""
    found = {}
    waiting = list(equations)
    while waiting:
        one, two = [replaced(term, found) for term in waiting.pop()]
        if one == two:
            continue
        if type(two) is int:
            one, two = two, one
        if type(one) is int:
            if one in variables_of([two]):
                return None
            found = {variable: replaced(term, {one: two}) for variable, term in found.items()}
            found[one] = two
        elif one[0] != two[0]:
            return None
        else:
            waiting.extend(zip(one[1:], two[1:]))
    return found


def plain_match(p, t):
    """Return True if t is an instance of p, by putting constants in the place of t's variables."""
    constants = {variable: (f"constant{variable}",) for variable in variables_of([t])}
    return plain_unifier([(p, replaced(t, constants))]) is not None


def is_plain_term(constructors, value):
    """Return True if any value is a term, by the words of point 1.2."""
    if type(value) is int:
        return value >= 0
    if type(value) is not tuple or not value or type(value[0]) is not str:
        return False
    fits = (value[0], len(value) - 1) in constructors
    return fits and all(is_plain_term(constructors, part) for part in value[1:])


def is_plain_word(value):
    return type(value) is str and re.fullmatch("[a-z]{1,12}", value) is not None


def is_plain_type(constructors, families, value):
    if type(value) is not tuple or len(value) != 2:
        return False
    return is_plain_word(value[0]) and value[0] in families and is_plain_term(constructors, value[1])


def is_plain_maker(constructors, families, value):
    """Return True if any value is a maker, by the words of point 3.1."""
    if type(value) is not tuple or len(value) != 4:
        return False
    word, family, head, arguments = value
    if not is_plain_word(word) or not is_plain_type(constructors, families, (family, head)):
        return False
    if type(arguments) is not tuple or len(arguments) > 3:
        return False
    if not all(is_plain_type(constructors, families, part) and nodes_of(part[1]) <= 6 for part in arguments):
        return False
    parts = [] if type(head) is int else list(head[1:])
    if not all(type(part) is int for part in parts) or len(set(parts)) != len(parts):
        return False
    return maker_variables(value) in ([], [0], [0, 1], [0, 1, 2], [0, 1, 2, 3])


def is_plain_signature(value):
    """Return True if any value is a signature, by the words of points 1.1 and 3.2."""
    if type(value) is not tuple or len(value) != 3 or not all(type(part) is tuple for part in value):
        return False
    constructors, families, makers = value
    if not 1 <= len(constructors) <= 5 or not 1 <= len(families) <= 4 or len(makers) > 8:
        return False
    for pair in constructors:
        if type(pair) is not tuple or len(pair) != 2 or not is_plain_word(pair[0]):
            return False
        if type(pair[1]) is not int or pair[1] not in (0, 1, 2):
            return False
    if not all(is_plain_word(family) for family in families):
        return False
    if not all(is_plain_maker(constructors, families, maker) for maker in makers):
        return False
    names = [[pair[0] for pair in constructors], families, [maker[0] for maker in makers]]
    return all(len(set(row)) == len(row) for row in names) and 0 in [pair[1] for pair in constructors]


def maker_named(signature, word):
    return [maker for maker in signature[2] if maker[0] == word][0]


def maker_variables(maker):
    return variables_of([maker[2]] + [index for family, index in maker[3]])


def is_closed(constructors, term):
    """Return True if any value is a closed term."""
    if type(term) is not tuple or not term or type(term[0]) is not str:
        return False
    fits = (term[0], len(term) - 1) in constructors
    return fits and all(is_closed(constructors, part) for part in term[1:])


def is_right_derivation(signature, value, index, found):
    """Return True if any value is a right derivation, by the words of point 4.4."""
    if type(found) is not tuple or len(found) != 3:
        return False
    word, indices, parts = found
    if not same(word, value[0]) or type(indices) is not tuple or type(parts) is not tuple:
        return False
    maker = maker_named(signature, value[0])
    if len(indices) != len(maker_variables(maker)) or len(parts) != len(maker[3]):
        return False
    if not all(is_closed(signature[0], term) for term in indices):
        return False
    chosen = dict(enumerate(indices))
    if replaced(maker[2], chosen) != index:
        return False
    rows = zip(value[1:], maker[3], parts)
    return all(is_right_derivation(signature, below, replaced(argument[1], chosen), part)
               for below, argument, part in rows)


def has_index(signature, value, index, pool):
    """Return True if a value has an index, with terms of the pool for the variables of the makers."""
    maker = maker_named(signature, value[0])
    for terms in itertools.product(pool, repeat=len(maker_variables(maker))):
        chosen = dict(enumerate(terms))
        if replaced(maker[2], chosen) == index:
            rows = zip(value[1:], maker[3])
            if all(has_index(signature, part, replaced(asked[1], chosen), pool) for part, asked in rows):
                return True
    return False


def found_values(signature, pool):
    """Return a dict with a key (family, term) where values are found with terms of the pool alone."""
    found = {}
    many = -1
    while many < len(found):
        many = len(found)
        for name, family, head, arguments in signature[2]:
            asked = len(maker_variables((name, family, head, arguments)))
            for terms in itertools.product(pool, repeat=asked):
                chosen = dict(enumerate(terms))
                if all((lower, replaced(index, chosen)) in found for lower, index in arguments):
                    found[(family, replaced(head, chosen))] = True
    return found


def values_up_to(signature, most):
    """Return a dict from the families to their values with at most so many makers."""
    listed = {family: [[]] for family in signature[1]}
    for weight in range(1, most + 1):
        for family in signature[1]:
            listed[family].append([])
        for name, family, head, arguments in signature[2]:
            for split in itertools.product(range(1, weight), repeat=len(arguments)):
                if sum(split) == weight - 1:
                    pools = [listed[below[0]][many] for below, many in zip(arguments, split)]
                    listed[family][weight].extend([(name, *parts) for parts in itertools.product(*pools)])
    return {family: [value for row in rows for value in row] for family, rows in listed.items()}


def state_of(table, term, given):
    if type(term) is int:
        return given[term]
    return table[(term[0], tuple([state_of(table, part, given) for part in term[1:]]))]


def is_model(signature, table, states):
    """Return True if no maker leads out of a table of tuples of families."""
    for name, family, head, arguments in signature[2]:
        many = len(maker_variables((name, family, head, arguments)))
        for choice in itertools.product(states, repeat=many):
            if all(lower in state_of(table, index, choice) for lower, index in arguments):
                if family not in state_of(table, head, choice):
                    return False
    return True


def with_holes(signature, arity):
    """Return the signature with new constants, and makers for holes that have only these as indices."""
    constants = tuple([("hole" + "ab"[i], 0) for i in range(arity)])
    makers = tuple([(f"{i}{family}", family, (constants[i][0],), ())
                    for i in range(arity) for family in signature[1]])
    return (signature[0] + constants, signature[1], signature[2] + makers)


def without_holes(template):
    """Return a template with the makers of with_holes in the place of its holes."""
    if type(template[0]) is int:
        return (f"{template[0]}{template[1]}",)
    return (template[0],) + tuple([without_holes(part) for part in template[1:]])


def is_plain_template(signature, family, many, value):
    """Return True if any value is a template of a family, by the words of point 5.1, or a value."""
    if type(value) is not tuple or not value:
        return False
    if type(value[0]) is int:
        return len(value) == 2 and 0 <= value[0] < many and same(value[1], family)
    fitting = [maker for maker in signature[2] if same(maker[0], value[0]) and maker[1] == family]
    if not fitting or len(fitting[0][3]) != len(value) - 1:
        return False
    rows = zip(fitting[0][3], value[1:])
    return all(is_plain_template(signature, argument[0], many, part) for argument, part in rows)


def holes_of(template):
    if type(template[0]) is int:
        return [template]
    return [hole for part in template[1:] for hole in holes_of(part)]


def is_right_rule(signature, value, derivation):
    """Return True if any value is a right rule, by the words of point 5.2.

    The new constants become constructors, and each hole a maker with one of them as its index;
    a derivation over the longer signature then shows that the rule is right.
    """
    if type(value) is not tuple or len(value) != 3:
        return False
    family, word, template = value
    arities = dict(signature[0])
    if type(family) is not str or family not in signature[1] or type(word) is not str or word not in arities:
        return False
    if not is_plain_template(signature, family, arities[word], template) or type(template[0]) is int:
        return False
    longer = with_holes(signature, arities[word])
    index = (word,) + tuple([(pair[0],) for pair in longer[0][len(signature[0]):]])
    shown = without_holes(template)
    found = derivation(longer, shown, index)
    return found is not None and is_right_derivation(longer, shown, index, found)


def plain_needs(signature, rule):
    holes = holes_of(rule[2])
    arity = dict(signature[0])[rule[1]]
    return tuple(tuple(sorted({family for i, family in holes if i == k})) for k in range(arity))


def is_right_paper(signature, value, derivation):
    """Return True if any value is a right profile paper, by the words of point 6.2."""
    if type(value) is not tuple:
        return False
    arities = dict(signature[0])
    table = {}
    for row in value:
        if type(row) is not tuple or len(row) != 4 or type(row[0]) is not str or row[0] not in arities:
            return False
        word, parts, profile, templates = row
        if type(parts) is not tuple or len(parts) != arities[word] or type(templates) is not tuple:
            return False
        if not all(is_ascending(signature, part) for part in parts + (profile,)):
            return False
        if not all(part in table.values() for part in parts) or (word, parts) in table:
            return False
        if len(templates) != len(profile):
            return False
        for family, template in zip(profile, templates):
            rule = (family, word, template)
            if not is_right_rule(signature, rule, derivation):
                return False
            if not all(set(lesser) <= set(part) for lesser, part in zip(plain_needs(signature, rule), parts)):
                return False
        table[(word, parts)] = profile
    states = sorted(set(table.values()))
    asked = [(word, parts) for word, arity in signature[0] for parts in itertools.product(states, repeat=arity)]
    return set(asked) == set(table) and is_model(signature, table, states)


def is_ascending(signature, value):
    if type(value) is not tuple or not all(type(family) is str and family in signature[1] for family in value):
        return False
    return list(value) == sorted(set(value))
