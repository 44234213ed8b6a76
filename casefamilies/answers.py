"""Goals with solutions, and models that show that there is none (points 7.2 to 7.4)."""

from casefamilies.models import fails_in, is_model
from casefamilies.signatures import goal_variables
from casefamilies.solver import Solver
from casefamilies.states import choices_that_fit, least_states
from casefamilies.terms import is_closed_term, substituted
from casefamilies.values import has_index, is_template


def answer(signature, goal):
    """Return a right answer to a goal."""
    solver = Solver(signature)
    if not solver.has_solution(goal):
        return ("empty", solver.model())
    terms, found = solver.solution(goal)
    return ("full", tuple([(variable, terms[variable]) for variable in sorted(terms)]), found)


def has_solution(signature, goal):
    """Return True if a goal has a solution."""
    return Solver(signature).has_solution(goal)


def check_answer(signature, goal, value):
    """Return True if a value is a right answer to a goal."""
    if type(value) is not tuple or not value or type(value[0]) is not str:
        return False
    if value[0] == "full" and len(value) == 3:
        return are_choices(signature, goal, value[1]) and are_values(signature, goal, value[1], value[2])
    if value[0] == "empty" and len(value) == 2:
        return is_model(signature, value[1]) and fails_in(signature, value[1], goal)
    return False


def are_choices(signature, goal, value):
    """Return True if a value is an ascending tuple of pairs of the variables of a goal and closed terms."""
    if type(value) is not tuple or not all([is_choice(signature, pair) for pair in value]):
        return False
    return [pair[0] for pair in value] == sorted(goal_variables(goal))


def is_choice(signature, value):
    """Return True if a value is a pair of an integer and a closed term."""
    if type(value) is not tuple or len(value) != 2:
        return False
    return type(value[0]) is int and is_closed_term(signature[0], value[1])


def are_values(signature, goal, indices, value):
    """Return True if a value is a tuple of values for the types of a goal with given indices."""
    if type(value) is not tuple or len(value) != len(goal):
        return False
    chosen = {variable: term for variable, term in indices}
    for (family, index), part in zip(goal, value):
        if not is_template(signature, family, 0, part):
            return False
        if not has_index(signature, part, substituted(index, chosen)):
            return False
    return True


def possible(signature, goal):
    """Return the ascending list of the profiles that the variables of a goal can have in solutions."""
    states = least_states(signature)
    numbers = {variable: k for k, variable in enumerate(sorted(goal_variables(goal)))}
    tests = [(family, substituted(index, numbers), True) for family, index in goal]
    found = choices_that_fit(tests, [states.masks] * len(numbers), states.table, states.members)
    return sorted([tuple([states.profile_of(mask) for mask in given]) for given in found])


def dead_makers(signature):
    """Return the names of the makers that occur in no well-typed value, in the order of the signature."""
    # A part of a well-typed value is well-typed: so a maker occurs if its arguments have values.
    solver = Solver(signature)
    return [maker[0] for maker in signature[2] if not solver.has_solution(maker[3])]
