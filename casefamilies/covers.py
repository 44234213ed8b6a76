"""Papers that tell whether clauses take all inputs, or which one they miss (points 11.2 and 11.3)."""

from casefamilies.fits import fit_function, rows_goal
from casefamilies.places import family_at, merged, open_places, put_values, split_at
from casefamilies.programs import function_of
from casefamilies.solver import Solver


def cover_paper(program, word):
    """Return a right cover paper for a function."""
    search = Search(program, word)
    patterns = tuple([str(k) for k in range(len(search.function[1]))])
    tree, missing = search.explored(patterns, list(range(len(search.clauses))))
    return ("missing", missing) if tree is None else ("covered", tree)


def is_covered(program, word):
    """Return True if each well-typed input of a function is matched by a clause."""
    return cover_paper(program, word)[0] == "covered"


def reach_paper(program, word, k):
    """Return a right reach paper for the clause k of a function."""
    search = Search(program, word)
    tree, missing = search.explored(search.clauses[k], list(range(k)))
    return ("used", missing) if tree is None else ("useless", tree)


def useless_clauses(program, word):
    """Return the ascending list of the numbers of the clauses that no input comes to."""
    clauses = function_of(program, word)[3]
    return [k for k in range(len(clauses)) if reach_paper(program, word, k)[0] == "useless"]


class Search:
    """The search for a tree of splits, or for an input that shows that there is none.

    Both are returned as a pair: the tree and None, or None and the input.
    """

    def __init__(self, program, word):
        self.signature = program[0]
        self.function = function_of(program, word)
        self.clauses = [patterns for patterns, body in self.function[3]]
        self.solver = Solver(program[0])
        self.void = ("empty", self.solver.model())

    def explored(self, patterns, allowed):
        """Return a tree for patterns, or an input that matches them and no allowed clause."""
        gaps = self.gaps(patterns, allowed)
        taken = [k for k in allowed if gaps[k] == []]
        if taken:
            return ("clause", taken[0]), None
        found = fit_function(self.signature, self.function, patterns)
        if found is None:
            return ("clash",), None
        goal = rows_goal(found[1])
        if not self.solver.has_solution(goal):
            return self.void, None
        # A clause that has a maker at few places is soon out of the way, or takes what is left.
        open_ones = [(len(gaps[k]), k) for k in allowed if gaps[k] is not None]
        alive = [k for many, k in sorted(open_ones)]
        while alive and not self.is_inhabited(merged(patterns, self.clauses[alive[0]])):
            alive = alive[1:]
        if not alive:
            return None, self.filled_in(patterns, found[1])
        return self.divided(patterns, self.best_place(alive, gaps), sorted(alive))

    def gaps(self, patterns, allowed):
        """Return for each allowed clause the places where it has a maker beyond patterns, or None if it clashes."""
        return {k: open_places(self.clauses[k], patterns) for k in allowed}

    def is_inhabited(self, patterns):
        """Return True if some well-typed input matches patterns."""
        found = fit_function(self.signature, self.function, patterns)
        return found is not None and self.solver.has_solution(rows_goal(found[1]))

    def filled_in(self, patterns, rows):
        """Return an input that matches patterns with these rows."""
        _, values = self.solver.solution(rows_goal(rows))
        chosen = {row[0]: value for row, value in zip(rows, values)}
        return tuple([put_values(pattern, chosen) for pattern in patterns])

    def best_place(self, alive, gaps):
        """Return the place, of those where the first clause has a maker, where most others have one too."""
        counts = [(-len([k for k in alive if place in gaps[k]]), place) for place in gaps[alive[0]]]
        return min(counts)[1]

    def divided(self, patterns, place, alive):
        """Return a tree that splits patterns at a place, or an input."""
        family = family_at(self.signature, self.function[1], patterns, place)
        below = split_at(self.signature, patterns, place, family)
        # Where few clauses are left, an input that none of them takes is found soon.
        left = [len([gap for gap in self.gaps(part, alive).values() if gap is not None]) for part in below]
        trees = {}
        for many, k in sorted([(many, k) for k, many in enumerate(left)]):
            tree, missing = self.explored(below[k], alive)
            if tree is None:
                return None, missing
            trees[k] = tree
        return ("split", place, tuple([trees[k] for k in range(len(below))])), None
