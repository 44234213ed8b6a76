"""Places in tuples of patterns, and what stands there (point 11.1).

The variables of patterns are strings here, which need not be words.
"""

from casefamilies.signatures import maker_of


def family_at(signature, types, patterns, place):
    """Return the family of the variable that patterns have at a place, or None if none stands there."""
    if not place or not 0 <= place[0] < len(patterns):
        return None
    family, pattern = types[place[0]][0], patterns[place[0]]
    for number in place[1:]:
        if type(pattern) is str or not 0 <= number < len(pattern) - 1:
            return None
        family, pattern = maker_of(signature, pattern[0])[3][number][0], pattern[number + 1]
    return family if type(pattern) is str else None


def split_at(signature, patterns, place, family):
    """Return the tuples of patterns that have one maker of a family each at a place, with new variables."""
    makers = [maker for maker in signature[2] if maker[1] == family]
    return [put_at(patterns, place, (maker[0], *new_variables(place, len(maker[3])))) for maker in makers]


def new_variables(place, many):
    """Return different variables for the parts at a place: they are called by their own places."""
    return [" ".join([str(number) for number in (*place, k)]) for k in range(many)]


def put_at(patterns, place, pattern):
    """Return a tuple of patterns with another one at a place."""
    # Like the parts of a maker, the patterns then stand behind a string.
    return put_below(("", *patterns), place, pattern)[1:]


def put_below(whole, place, pattern):
    """Return a pattern with another one at a place in it."""
    if not place:
        return pattern
    at = place[0] + 1
    return (*whole[:at], put_below(whole[at], place[1:], pattern), *whole[at + 1:])


def open_places(patterns, others):
    """Return the places at which patterns have a maker and others a variable, or None if makers differ."""
    found = []
    waiting = [((k,), one, two) for k, (one, two) in enumerate(zip(patterns, others))]
    while waiting:
        place, one, two = waiting.pop()
        if type(one) is str:
            continue
        if type(two) is str:
            found.append(place)
        elif one[0] != two[0]:
            return None
        else:
            waiting.extend([((*place, k), one[k + 1], two[k + 1]) for k in range(len(one) - 1)])
    return sorted(found)


def merged(patterns, others):
    """Return the patterns that all values match which match two tuples of patterns without differing makers.

    The variables of the two may have the same names then.
    """
    return tuple([merged_pattern(one, two) for one, two in zip(patterns, others)])


def merged_pattern(one, two):
    """Return the pattern that all values match which match two patterns."""
    if type(one) is str:
        return two
    if type(two) is str:
        return one
    return (one[0], *merged(one[1:], two[1:]))


def put_values(pattern, chosen):
    """Return a pattern with values in the place of its variables."""
    if type(pattern) is str:
        return chosen[pattern]
    return (pattern[0], *[put_values(part, chosen) for part in pattern[1:]])
