"""Templates, and rules that tell at which closed terms families have values (part 5)."""

from casefamilies.recipes import Kitchen, ways_at
from casefamilies.signatures import makers_by_name
from casefamilies.states import least_states
from casefamilies.unify import match
from casefamilies.values import index_tree, is_template


def filled(template, parts):
    """Return a template with the holes that are keys of parts replaced."""
    if type(template[0]) is int:
        return parts.get(template, template)
    return (template[0],) + tuple([filled(part, parts) for part in template[1:]])


def check_rule(signature, value):
    """Return True if a value is a right rule."""
    if type(value) is not tuple or len(value) != 3:
        return False
    family, word, template = value
    if type(family) is not str or family not in signature[1] or type(word) is not str:
        return False
    arities = dict(signature[0])
    if word not in arities or not is_template(signature, family, arities[word], template):
        return False
    if type(template[0]) is int:
        return False
    general = index_tree(makers_by_name(signature), template)[0]
    # The index of a hole is a constant of its number: see index_tree.
    wanted = (word, *[(str(k),) for k in range(arities[word])])
    return general is not None and match(general, wanted) is not None


def needs(signature, rule):
    """Return for each part of the word of a right rule the ascending tuple of families needed."""
    holes = holes_in(rule[2])
    arity = dict(signature[0])[rule[1]]
    return tuple([tuple(sorted(set([family for i, family in holes if i == k]))) for k in range(arity)])


def holes_in(template):
    """Return the holes of a template, each as often as it occurs."""
    found = []
    waiting = [template]
    while waiting:
        part = waiting.pop()
        if type(part[0]) is int:
            found.append(part)
        else:
            waiting.extend(part[1:])
    return found


def rules(signature):
    """Return a complete list of right rules."""
    kitchen = Kitchen(signature)
    found = {}
    for row in kitchen.states.table:
        for plan in kitchen.row_ways(row).values():
            found[plan.recipe] = True
    return [recipe.rule() for recipe in found]


def is_complete(signature, listed):
    """Return True if a list of right rules is complete."""
    states = least_states(signature)
    asked = [(family, word, needs(signature, (family, word, template))) for family, word, template in listed]
    for row, mask in states.table.items():
        parts = [states.profile_of(part) for part in row[1:]]
        for family in states.profile_of(mask):
            shown = [needed for other, word, needed in asked if other == family and word == row[0]]
            if not any([are_within(needed, parts) for needed in shown]):
                return False
    return True


def are_within(needed, parts):
    """Return True if the families that are needed at each place are all there."""
    return all([family in part for lesser, part in zip(needed, parts) for family in lesser])


def value_at(signature, family, index):
    """Return a value of a family that has a closed index, or None."""
    ways = ways_at(Kitchen(signature).recipes, index, {})
    return ways[family].written({}) if family in ways else None
