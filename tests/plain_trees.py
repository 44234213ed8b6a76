"""What parts 15 and 16 of the document say, worked out in the plainest way, for comparing."""

from casefamilies.answers import has_solution
from casefamilies.signatures import after
from drafts import family_of_place, makers_for, variable_places, with_pattern
from plain_programs import count_of, function_named, plain_fit


def has_input(program, function, patterns):
    """Return True if a well-typed input matches patterns."""
    fitted = plain_fit(program[0], count_of(function), function[1], patterns)
    return fitted is not None and has_solution(program[0], tuple((family, index) for _, family, index in fitted[1]))


def both(one, two):
    """Return the pattern that just the values match that match two patterns, or None."""
    if type(one) is str or type(two) is str:
        return two if type(one) is str else one
    if one[0] != two[0]:
        return None
    parts = [both(a, b) for a, b in zip(one[1:], two[1:])]
    return None if None in parts else (one[0],) + tuple(parts)


def is_alive(program, function, patterns, k):
    """Return True if the clause k matches an input at patterns."""
    parts = [both(one, two) for one, two in zip(patterns, function[3][k][0])]
    if None in parts:
        return False
    return has_input(program, function, renamed_apart(tuple(parts)))


def renamed_apart(patterns):
    """Return patterns in which all variables have different names."""
    for n, place in enumerate(variable_places(patterns)):
        patterns = with_pattern(patterns, place, "name" + str(n) + "of")
    return patterns


def pattern_at(patterns, place):
    """Return what patterns have at a place, or None if a variable stands there or above it."""
    part = patterns[place[0]]
    for number in place[1:]:
        if type(part) is str:
            return None
        part = part[number + 1]
    return None if type(part) is str else part


def with_maker(patterns, place, maker):
    names = tuple("new" + "".join(map(str, place)) + "at" + str(k) for k in range(len(maker[3])))
    return with_pattern(patterns, place, (maker[0],) + names)


def misses_some(program, function, patterns, k):
    """Return True if the clause k does not match some input at patterns."""
    if not has_input(program, function, patterns):
        return False
    if any(both(one, two) is None for one, two in zip(patterns, function[3][k][0])):
        return True
    wanted = [place for place in variable_places(patterns) if pattern_at(function[3][k][0], place) is not None]
    if not wanted:
        return False
    makers = makers_for(program[0], family_of_place(program[0], function, patterns, wanted[0]))
    return any(misses_some(program, function, with_maker(patterns, wanted[0], maker), k) for maker in makers)


def look_places(program, function, patterns, alive):
    return [place for place in sorted(variable_places(patterns))
            if any(pattern_at(function[3][k][0], place) is not None for k in alive)]


def plain_end(program, function, patterns, alive):
    """Return the tree without a look that is right at patterns, or None, by the words of point 15.1."""
    if not has_input(program, function, patterns):
        return ("never",)
    if not alive:
        return ("miss",)
    return None if misses_some(program, function, patterns, alive[0]) else ("take", alive[0])


def alive_at(program, function, patterns):
    return [k for k in range(len(function[3])) if is_alive(program, function, patterns, k)]


def plain_branches(program, function, patterns, place):
    makers = makers_for(program[0], family_of_place(program[0], function, patterns, place))
    found = [(maker[0], with_maker(patterns, place, maker)) for maker in makers]
    return [(word, below) for word, below in found if has_input(program, function, below)]


def top_patterns(function):
    return tuple("top" + str(k) for k in range(len(function[1])))


def plain_tree_by(program, word, order):
    """Return what case_tree_by must return, by the words of point 15.2."""
    function = function_named(program, word)

    def grown(patterns):
        alive = alive_at(program, function, patterns)
        end = plain_end(program, function, patterns, alive)
        if end is not None:
            return end
        places = look_places(program, function, patterns, alive)
        place = [place for number in order for place in places if place[0] == number][0]
        branches = plain_branches(program, function, patterns, place)
        return ("look", place, tuple((name, grown(below)) for name, below in branches))

    return grown(top_patterns(function))


def is_right_case_tree(program, word, value):
    """Return True if any value is a tree that is right at the top, by the words of point 15.1."""
    function = function_named(program, word)

    def is_right(patterns, tree):
        if type(tree) is not tuple or not tree or type(tree[0]) is not str:
            return False
        alive = alive_at(program, function, patterns)
        if tree[0] != "look":
            if not all(type(part) is int for part in tree[1:]):
                return False
            return tree == plain_end(program, function, patterns, alive)
        if len(tree) != 3 or type(tree[1]) is not tuple or type(tree[2]) is not tuple:
            return False
        if not all(type(number) is int for number in tree[1]):
            return False
        if tree[1] not in look_places(program, function, patterns, alive):
            return False
        if not all(type(pair) is tuple and len(pair) == 2 and type(pair[0]) is str for pair in tree[2]):
            return False
        branches = plain_branches(program, function, patterns, tree[1])
        if [name for name, below in branches] != [name for name, below in tree[2]]:
            return False
        return all(is_right(below, pair[1]) for (name, below), pair in zip(branches, tree[2]))

    return is_right(top_patterns(function), value)


def trees_in(tree):
    """Return the trees in a tree, the whole first."""
    return [tree] + [below for word, part in (tree[2] if tree[0] == "look" else ()) for below in trees_in(part)]


def plain_choices(signature, goal):
    """Return what choices must return, by the words of point 16.1."""
    found = []
    for maker in makers_for(signature, goal[0][0]):
        left = after(signature, goal, maker[0])
        if left is not None and has_solution(signature, left):
            found.append(maker[0])
    return found


def makers_in_order(values):
    """Return the names of the makers in values, from the left."""
    return [word for value in values for word in [value[0]] + makers_in_order(value[1:])]


def plain_text(signature, goal, values):
    """Return the text as which values are stored, by the words of point 16.2."""
    text = ""
    for word in makers_in_order(values):
        found = plain_choices(signature, goal)
        text += str(found.index(word)) if len(found) > 1 else ""
        goal = after(signature, goal, word)
    assert goal == ()
    return text


def plain_fault(signature, goal, text):
    """Return where a text goes wrong, or None if it stores a solution of a goal that has one."""
    place = 0
    while goal:
        found = plain_choices(signature, goal)
        k = 0
        if len(found) > 1:
            if place == len(text) or text[place] not in "0123456789"[:len(found)]:
                return place
            k = int(text[place])
            place += 1
        goal = after(signature, goal, found[k])
    return None if place == len(text) else place
