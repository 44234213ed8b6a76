"""Values over a signature, their indices and derivations (part 4)."""

from casefamilies.errors import Unknown
from casefamilies.signatures import goal_variables, maker_of, maker_variables, makers_by_name
from casefamilies.terms import height, is_closed_term, shifted, size, substituted, tidied
from casefamilies.terms import variables
from casefamilies.unify import match, unifier


def is_value(signature, value):
    """Return True if a value is a value over the signature."""
    return is_template(signature, None, 0, value)


def is_template(signature, family, many, value):
    """Return True if a value is a template of a family, with numbers of holes below many.

    Without a family, each maker may stand at the top, and no hole.
    """
    makers = makers_by_name(signature)
    waiting = [(family, value)]
    while waiting:
        family, part = waiting.pop()
        if type(part) is not tuple or not part:
            return False
        if type(part[0]) is int:
            if not is_hole(family, many, part):
                return False
        elif is_made(makers, family, part):
            arguments = makers[part[0]][3]
            waiting.extend([(argument[0], below) for argument, below in zip(arguments, part[1:])])
        else:
            return False
    return True


def is_hole(family, many, value):
    """Return True if a tuple that begins with an integer is a hole of a family."""
    if len(value) != 2 or type(value[1]) is not str:
        return False
    return 0 <= value[0] < many and value[1] == family


def is_made(makers, family, value):
    """Return True if a tuple has the word and the length of a maker, of the family if one is given."""
    if type(value[0]) is not str or value[0] not in makers:
        return False
    maker = makers[value[0]]
    return len(value) == len(maker[3]) + 1 and (family is None or maker[1] == family)


def family_of(signature, value):
    """Return the family of the first maker of a value."""
    return maker_of(signature, value[0])[1]


def weight(value):
    """Return the number of makers in a value."""
    return size(value)


def depth(value):
    """Return the greatest number of makers on a way from the top to a leaf."""
    return height(value)


def part_at(value, place):
    """Return the part of a value at a place."""
    for number in place:
        if not 0 <= number < len(value) - 1:
            raise Unknown("the place leads nowhere")
        value = value[number + 1]
    return value


def has_index(signature, value, index):
    """Return True if a value has a closed index."""
    general = general_index(signature, value)
    return general is not None and match(general, index) is not None


def general_index(signature, value):
    """Return the tidy term whose closed instances are the indices of a value, or None."""
    return index_tree(makers_by_name(signature), value)[0]


def index_tree(makers, template):
    """Return the general index of a template and the list of such trees of its parts.

    A hole stands for a value whose only index is a constant of the hole's number. No word of a
    constructor is a number, so this constant is new.
    """
    if type(template[0]) is int:
        return (str(template[0]),), []
    trees = [index_tree(makers, part) for part in template[1:]]
    generals = [general for general, below in trees]
    if None in generals:
        return None, trees
    maker = makers[template[0]]
    found = solved(maker, generals, [])
    if found is None:
        return None, trees
    return tidied((substituted(maker[2], found),))[0], trees


def solved(maker, generals, equations):
    """Return the unifier of some equations and of the arguments of a maker with given indices."""
    return unified(maker[3], generals, len(maker_variables(maker)), equations)


def unified(types, generals, far, equations):
    """Return the unifier of some equations and of types with general indices, or None.

    The variables of the general indices are numbered from far on.
    """
    equations = list(equations)
    for (family, index), general in zip(types, generals):
        equations.append((index, shifted(general, far)))
        # The general indices are tidy: the numbers behind their variables are free.
        far += len(variables(general))
    return unifier(equations)


def is_solution(signature, goal, value):
    """Return True if a value is a tuple of values that solves a goal (point 8.1)."""
    if type(value) is not tuple or len(value) != len(goal):
        return False
    if not all([is_template(signature, part[0], 0, below) for part, below in zip(goal, value)]):
        return False
    generals = [general_index(signature, part) for part in value]
    far = max(goal_variables(goal), default=-1) + 1
    return None not in generals and unified(goal, generals, far, []) is not None


def derivation(signature, value, index):
    """Return a right derivation for a value and a closed index, or None."""
    makers = makers_by_name(signature)
    tree = index_tree(makers, value)
    if tree[0] is None or match(tree[0], index) is None:
        return None
    leaf = [(word,) for word, arity in signature[0] if arity == 0][0]
    return derived(makers, leaf, value, tree, index)


def derived(makers, leaf, value, tree, index):
    """Return a derivation for a value with its tree of indices, and a closed index that it has.

    What the index leaves free becomes the leaf.
    """
    maker = makers[value[0]]
    found = solved(maker, [general for general, below in tree[1]], [(maker[2], index)])
    terms = [substituted(variable, found) for variable in range(len(maker_variables(maker)))]
    indices = [substituted(term, {free: leaf for free in variables(term)}) for term in terms]
    chosen = {variable: term for variable, term in enumerate(indices)}
    asked = [substituted(argument[1], chosen) for argument in maker[3]]
    parts = [derived(makers, leaf, *row) for row in zip(value[1:], tree[1], asked)]
    return (maker[0], tuple(indices), tuple(parts))


def check_derivation(signature, value, index, found):
    """Return True if a value is a right derivation for a value and a closed index."""
    makers = makers_by_name(signature)
    waiting = [(value, index, found)]
    while waiting:
        part, asked, shown = waiting.pop()
        maker = makers[part[0]]
        if not is_step(signature, maker, shown):
            return False
        chosen = {variable: term for variable, term in enumerate(shown[1])}
        if substituted(maker[2], chosen) != asked:
            return False
        below = [substituted(argument[1], chosen) for argument in maker[3]]
        waiting.extend(list(zip(part[1:], below, shown[2])))
    return True


def is_step(signature, maker, value):
    """Return True if a value has the form of a derivation that begins with a maker."""
    if type(value) is not tuple or len(value) != 3:
        return False
    word, indices, parts = value
    if type(word) is not str or word != maker[0]:
        return False
    if type(indices) is not tuple or len(indices) != len(maker_variables(maker)):
        return False
    if type(parts) is not tuple or len(parts) != len(maker[3]):
        return False
    return all([is_closed_term(signature[0], term) for term in indices])


def fault_place(signature, value):
    """Return the first place where a value is not well-typed although its parts are, or None."""
    tree = index_tree(makers_by_name(signature), value)
    if tree[0] is not None:
        return None
    place = []
    while None in [general for general, below in tree[1]]:
        place.append([general for general, below in tree[1]].index(None))
        tree = tree[1][place[-1]]
    return tuple(place)
