"""Values stored as texts without what their types force (part 16)."""

from casefamilies.errors import BadCode, NotThere
from casefamilies.signatures import after, maker_of, makers_of
from casefamilies.solver import Solver
from casefamilies.texts import write_goal
from casefamilies.values import is_solution


class Guide:
    """The makers that can come next in the solutions of goals over a signature, worked out once for each goal."""

    def __init__(self, signature):
        self.signature = signature
        self.solver = Solver(signature)
        self.known = {}

    def openings(self, goal):
        """Return the choices of a goal, each with the goal that it leaves."""
        name = write_goal(goal)
        if name not in self.known:
            self.known[name] = self.found_openings(goal)
        return self.known[name]

    def found_openings(self, goal):
        """Return the choices of a goal, each with the goal that it leaves; there are none without types."""
        words = makers_of(self.signature, goal[0][0]) if goal else []
        rows = [(word, after(self.signature, goal, word)) for word in words]
        return [(word, left) for word, left in rows if left is not None and self.solver.has_solution(left)]

    def settled(self, goal):
        """Return the first goal, from one on, that has no choice or several."""
        ways = self.openings(goal)
        while len(ways) == 1:
            goal = ways[0][1]
            ways = self.openings(goal)
        return goal


def choices(signature, goal):
    """Return the names of the makers that can come first in solutions of a goal, in the order of the signature."""
    return [word for word, left in Guide(signature).openings(goal)]


def stored(signature, goal, values):
    """Return the text as which a solution of a goal is stored."""
    if not is_solution(signature, goal, values):
        raise NotThere("these values do not solve the goal")
    guide = Guide(signature)
    digits = []
    waiting = list(values[::-1])
    while waiting:
        value = waiting.pop()
        waiting.extend(value[:0:-1])
        ways = guide.openings(goal)
        k = [word for word, left in ways].index(value[0])
        if len(ways) > 1:
            digits.append(str(k))
        goal = ways[k][1]
    return "".join(digits)


def restored(signature, goal, text):
    """Return the solution of a goal that is stored as a text."""
    guide = Guide(signature)
    words = []
    place = 0
    left = goal
    while left:
        ways = guide.openings(left)
        k = 0
        if len(ways) != 1:
            k = digit_at(text, place, len(ways))
            place += 1
        words.append(ways[k][0])
        left = ways[k][1]
    if place < len(text):
        raise BadCode(place)
    return built(signature, words)


def digit_at(text, place, many):
    """Return the digit at a place of a text, which must be less than a number."""
    sign = text[place:place + 1]
    # No maker's number has two digits: there are at most 8 makers.
    if not "0" <= sign <= "9" or int(sign) >= many:
        raise BadCode(place)
    return int(sign)


def built(signature, words):
    """Return the tuple of the values whose makers have these names, from the left."""
    values = []
    for word in words[::-1]:
        # What was built last stands furthest to the left.
        parts = [values.pop() for argument in maker_of(signature, word)[3]]
        values.append((word, *parts))
    return tuple(values[::-1])


def texts_of(signature, goal, n):
    """Return the ascending list of the stored texts of solutions of a goal that have n digits."""
    guide = Guide(signature)
    if not guide.solver.has_solution(goal):
        return []
    starts = [("", guide.settled(goal))]
    for _ in range(n):
        starts = [(text + str(k), guide.settled(way[1]))
                  for text, left in starts for k, way in enumerate(guide.openings(left))]
    return sorted([text for text, left in starts if left == ()])
