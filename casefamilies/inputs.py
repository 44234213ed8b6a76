"""The well-typed inputs at patterns, and the clauses that match some of them (point 15.1).

The inputs at patterns are known by rows, which are in groups: a group is a dict from places of
variables of the patterns to the types that stand there, and no two groups have index variables in
common. The rows are a dict from the places of all variables to their groups. The gaps of a clause
are a dict from the places at which the patterns have a variable and the clause a maker to what the
clause has there.
"""

from casefamilies.programs import function_of
from casefamilies.solver import Solver, unlinked
from casefamilies.terms import shifted, substituted, tidied, variables_in, write_term
from casefamilies.unify import unifier


class View:
    """Patterns at which there is an input: their rows, and the clauses that are alive there.

    The gaps and the joined rows are dicts from the numbers of these clauses: the joined rows are
    those of the inputs at the patterns that the clause matches.
    """

    def __init__(self, rows, open_gaps, joined):
        self.rows = rows
        self.open_gaps = open_gaps
        self.joined = joined

    def places(self):
        """Return the ascending list of the places at which a look is right."""
        return sorted(set([place for asked in self.open_gaps.values() for place in asked]))

    def label(self):
        """Return a text that two views of a function share only if the same trees are right at both."""
        wanted = self.places()
        told = [f"{k} {sorted(asked)}" for k, asked in self.open_gaps.items()]
        done = {}
        for place in wanted:
            if place not in done:
                group = self.rows[place]
                told.append(group_label(group, wanted))
                for other in group:
                    done[other] = True
        # Groups without a place that a clause asks for are left out: their inputs tell nothing.
        return "; ".join(told)


class Viewer:
    """What is needed to look at the inputs of a function."""

    def __init__(self, program, word):
        self.function = function_of(program, word)
        self.makers = {family: [] for family in program[0][1]}
        for maker in program[0][2]:
            self.makers[maker[1]].append(maker)
        self.solver = Solver(program[0])

    def top(self):
        """Return the view of all inputs, or None if there is none."""
        types = self.function[1]
        rows = self.grouped({}, [(k,) for k in range(len(types))], types)
        if rows is None:
            return None
        gaps = {k: makers_at((), patterns) for k, (patterns, body) in enumerate(self.function[3])}
        joined = {k: self.narrowed(rows, gaps[k]) for k in gaps}
        alive = [k for k in gaps if joined[k] is not None]
        return View(rows, {k: gaps[k] for k in alive}, {k: joined[k] for k in alive})

    def grouped(self, rows, places, types):
        """Return rows with types at further places, or None if no input is there.

        The types have no variables in common with those that are there.
        """
        found = {place: rows[place] for place in rows}
        for numbers in unlinked(types):
            indices = tidied(tuple([types[k][1] for k in numbers]))
            goal = [(types[k][0], index) for k, index in zip(numbers, indices)]
            if not self.solver.part_has_solution(goal):
                return None
            group = {places[k]: part for k, part in zip(numbers, goal)}
            for place in group:
                found[place] = group
        return found

    def opened(self, rows, place, maker):
        """Return rows with those of the arguments of a maker in the place of one, or None if no input is there."""
        group = rows[place]
        far = max(variables_in([index for family, index in group.values()]), default=-1) + 1
        found = unifier([(group[place][1], shifted(maker[2], far))])
        if found is None:
            return None
        places = [other for other in group if other != place]
        types = [group[other] for other in places]
        places.extend([(*place, k) for k in range(len(maker[3]))])
        types.extend([(family, shifted(index, far)) for family, index in maker[3]])
        apart = {other: rows[other] for other in rows if other not in group}
        return self.grouped(apart, places, [(family, substituted(index, found)) for family, index in types])

    def narrowed(self, rows, gaps):
        """Return the rows of the inputs that have the makers of a clause in its gaps, or None if there are none."""
        waiting = list(gaps.items())
        while waiting and rows is not None:
            place, pattern = waiting.pop()
            rows = self.opened(rows, place, self.maker_in(rows, place, pattern))
            waiting.extend(list(makers_at(place, pattern[1:]).items()))
        return rows

    def makers_for(self, rows, place):
        """Return the makers of the family of a place."""
        return self.makers[rows[place][place][0]]

    def maker_in(self, rows, place, pattern):
        """Return the maker with which a pattern begins that stands in the place of a variable."""
        return [maker for maker in self.makers_for(rows, place) if maker[0] == pattern[0]][0]

    def branches(self, view, place):
        """Return the makers that inputs of a view have at a place, each with its view."""
        found = []
        for maker in self.makers_for(view.rows, place):
            rows = self.opened(view.rows, place, maker)
            if rows is not None:
                found.append((maker[0], self.view_below(view, place, maker, rows)))
        return found

    def view_below(self, view, place, maker, rows):
        """Return the view of those inputs that have a maker at a place, of which the rows are given."""
        gaps = {}
        joined = {}
        for k, asked in view.open_gaps.items():
            if place not in asked:
                narrower = self.opened(view.joined[k], place, maker)
                if narrower is not None:
                    gaps[k] = asked
                    joined[k] = narrower
            elif asked[place][0] == maker[0]:
                # The joined rows have this maker already.
                gaps[k] = {other: asked[other] for other in asked if other != place}
                for lower, pattern in makers_at(place, asked[place][1:]).items():
                    gaps[k][lower] = pattern
                joined[k] = view.joined[k]
        return View(rows, gaps, joined)

    def takes_all(self, view, k):
        """Return True if a clause that is alive matches each input of a view."""
        rows = view.rows
        waiting = list(view.open_gaps[k].items())
        while waiting:
            place, pattern = waiting.pop()
            for maker in self.makers_for(rows, place):
                if maker[0] != pattern[0] and self.opened(rows, place, maker) is not None:
                    return False
            rows = self.opened(rows, place, self.maker_in(rows, place, pattern))
            waiting.extend(list(makers_at(place, pattern[1:]).items()))
        return True

    def end_of(self, view):
        """Return the tree without a look that is right at a view, or None."""
        if not view.open_gaps:
            return ("miss",)
        first = min(list(view.open_gaps))
        return ("take", first) if self.takes_all(view, first) else None


def makers_at(place, patterns):
    """Return the patterns that begin with a maker, by their places behind a place."""
    return {(*place, k): pattern for k, pattern in enumerate(patterns) if type(pattern) is tuple}


def group_label(group, wanted):
    """Return a text that tells the types of a group, and at which of the wanted places they stand."""
    places = [place for place in sorted(group) if place in wanted]
    places.extend([place for place in sorted(group) if place not in wanted])
    indices = tidied(tuple([group[place][1] for place in places]))
    told = []
    for place, index in zip(places, indices):
        if place in wanted:
            told.append(str(place))
        told.append(group[place][0] + " " + write_term(index))
    return " ".join(told)
