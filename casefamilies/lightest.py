"""Values and solutions of little weight (points 8.1 and 8.2)."""

from casefamilies.groups import Groups, tuples_from


def values_of(signature, family, index, n):
    """Return the ascending list of the values of weight n that fit a type."""
    goal = ((family, index),)
    found = Groups(signature, goal).solving_goal(goal, n)
    return sorted([row[0] for parts in found for row in tuples_from(parts)])


def least_weight(signature, goal, most):
    """Return the least total weight of a solution of a goal, or None if it is greater than most."""
    weight, found = lightest_groups(signature, goal, most)
    return weight if found else None


def lightest(signature, goal, most):
    """Return the first solution of a goal of the least total weight, or None if that is greater than most."""
    weight, found = lightest_groups(signature, goal, most)
    return min([tuple([part.first for part in parts]) for parts in found], default=None)


def lightest_groups(signature, goal, most):
    """Return the least weight at which groups solve a goal, up to most, and all tuples of these groups."""
    groups = Groups(signature, goal)
    for weight in range(len(goal), most + 1):
        found = groups.solving_goal(goal, weight)
        if found:
            return weight, found
    return most, []
