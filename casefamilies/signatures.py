"""Families, makers, signatures and goals (part 3)."""

from casefamilies.errors import Unknown
from casefamilies.terms import is_constructors, is_term, is_word, shifted, size, substituted
from casefamilies.terms import tidied, variables_in
from casefamilies.unify import meet, unifier

MOST_FAMILIES = 4
MOST_MAKERS = 8
MOST_ARGUMENTS = 3
MOST_NODES = 6
MOST_VARIABLES = 4


def is_signature(value):
    """Return True if a value is a signature."""
    if type(value) is not tuple or len(value) != 3:
        return False
    constructors, families, makers = value
    if not is_constructors(constructors) or not are_families(families):
        return False
    if type(makers) is not tuple or len(makers) > MOST_MAKERS:
        return False
    if not all([is_maker(constructors, families, maker) for maker in makers]):
        return False
    return len(set([maker[0] for maker in makers])) == len(makers)


def are_families(value):
    """Return True if a value is a tuple of different words that can be the families."""
    if type(value) is not tuple or not 1 <= len(value) <= MOST_FAMILIES:
        return False
    return all([is_word(family) for family in value]) and len(set(value)) == len(value)


def is_maker(constructors, families, value):
    """Return True if a value is a maker over constructors and families."""
    if type(value) is not tuple or len(value) != 4:
        return False
    word, family, head, arguments = value
    if not is_word(word) or not is_type(constructors, families, (family, head)):
        return False
    if type(arguments) is not tuple or len(arguments) > MOST_ARGUMENTS:
        return False
    if not all([is_type(constructors, families, argument) for argument in arguments]):
        return False
    if not all([size(argument[1]) <= MOST_NODES for argument in arguments]):
        return False
    return is_head(head) and are_numbered(maker_variables(value))


def is_type(constructors, families, value):
    """Return True if a value is a pair of a family and an index."""
    if type(value) is not tuple or len(value) != 2:
        return False
    if type(value[0]) is not str or value[0] not in families:
        return False
    return is_term(constructors, value[1])


def is_head(term):
    """Return True if a term is a variable, or its parts are different variables."""
    if type(term) is int:
        return True
    parts = term[1:]
    return all([type(part) is int for part in parts]) and len(variables_in(parts)) == len(parts)


def are_numbered(found):
    """Return True if variables are few enough, and 0, 1, 2, .. in their order."""
    return len(found) <= MOST_VARIABLES and found == list(range(len(found)))


def maker_variables(maker):
    """Return the variables of a maker, in the order of their first appearance."""
    return variables_in((maker[2],) + tuple([index for family, index in maker[3]]))


def maker_of(signature, word):
    """Return the maker of a name."""
    for maker in signature[2]:
        if maker[0] == word:
            return maker
    raise Unknown("there is no maker of this name")


def makers_by_name(signature):
    """Return a dict from the names of the makers to the makers."""
    return {maker[0]: maker for maker in signature[2]}


def makers_of(signature, family):
    """Return the names of the makers of a family, in the order of the signature."""
    return [maker[0] for maker in signature[2] if maker[1] == family]


def fitting(signature, family, index):
    """Return the names of the makers of a family whose heads have common instances with a term."""
    makers = [maker for maker in signature[2] if maker[1] == family]
    return [maker[0] for maker in makers if meet(maker[2], index) is not None]


def families_below(signature, family):
    """Return the ascending list of the families that are reached from one."""
    found = {family: True}
    waiting = [family]
    while waiting:
        above = waiting.pop()
        makers = [maker for maker in signature[2] if maker[1] == above]
        for below in [argument[0] for maker in makers for argument in maker[3]]:
            if below not in found:
                found[below] = True
                waiting.append(below)
    return sorted(found)


def is_goal(signature, value):
    """Return True if a value is a goal over a signature."""
    if type(value) is not tuple:
        return False
    return all([is_type(signature[0], signature[1], part) for part in value])


def goal_variables(goal):
    """Return the different variables of a goal, in the order of their first appearance."""
    return variables_in([index for family, index in goal])


def tidied_goal(goal):
    """Return a goal with its variables renamed to 0, 1, 2, .. from the left."""
    indices = tidied(tuple([index for family, index in goal]))
    return tuple([(part[0], index) for part, index in zip(goal, indices)])


def after(signature, goal, word):
    """Return the goal that is left if a maker makes a value of the first type, or None."""
    maker = maker_of(signature, word)
    far = max(goal_variables(goal), default=-1) + 1
    found = unifier([(shifted(maker[2], far), goal[0][1])])
    if found is None:
        return None
    asked = [(family, shifted(index, far)) for family, index in maker[3]] + list(goal[1:])
    return tidied_goal([(family, substituted(index, found)) for family, index in asked])
