"""Papers about what clauses take and miss (part 11)."""

import itertools
import unittest

from casefamilies.answers import answer
from casefamilies.covers import cover_paper, is_covered, reach_paper, useless_clauses
from casefamilies.programs import is_program
from casefamilies.splits import check_cover, check_reach
from drafts import P, random_program
from plain_programs import is_plain_input, is_right_cover, is_right_reach, plain_first
from reference import values_up_to
from samples import (
    COUNTED, EMPTY, EXPR, FORMS, NAMED, NUMBERS, ODDITIES, PARITY, REGISTER, V, agreeable_mutants, bounded,
    lively_signature, number, same, structure_mutants, vector)

FIRST = ("first",)
NIL = ("nil",)
CLASH = ("clash",)
TREE = ("split", (0,), (CLASH, ("split", (0, 1), (("clause", 0), ("clause", 1)))))
# One state for zero, and one for all other numbers.
TWO = (2, ((0,), (1, 1)), ((1,), (0, 1)))
HALVES = (2, ((0,), (1, 0)), ((1,), (0,), ()))
ONE = (1, ((0,), (0,)), ((0,), (0,)))


def one_function(signature, arguments, result, clauses):
    program = (signature, (("run", arguments, result, clauses),))
    assert is_program(program), program
    return program


# The entry of a vector at a number below its length.
ENTRY = one_function(V, (("vec", 0), ("fin", 0)), ("fin", 1), (
    ((("cons", "a", "xs"), FIRST), "a"),
    ((("cons", "a", "xs"), ("more", "k")), ("run", "xs", "k"))))
# No number is odd and even.
BOTH = one_function(PARITY, (("odd", 0), ("even", 0)), ("even", 0), ())


def inputs_up_to(signature, function, most):
    """Return the well-typed inputs of a function whose values weigh little."""
    pools = [values_up_to(signature, most)[family] for family, index in function[1]]
    return [values for values in itertools.product(*pools) if is_plain_input((signature, (function,)), function,
                                                                             values)]


def some_program(seed):
    signature = (NAMED + [None, lively_signature(seed)] * 8)[seed % 24]
    return random_program(seed, signature, arguments=2 + seed % 2, chance=[0.4, 0.7, 0.95][seed % 3])


class Covers(unittest.TestCase):
    def test_known_ones(self):
        self.assertEqual(cover_paper(P, "place")[0], "covered")
        self.assertIs(is_covered(P, "place"), True)
        self.assertIs(is_covered(ENTRY, "run"), True)
        short = (V, (P[1][0][:3] + (P[1][0][3][:1],),))
        self.assertIs(is_covered(short, "place"), False)
        self.assertEqual(cover_paper(short, "place")[0], "missing")
        self.assertIs(is_covered(one_function(V, (("vec", 0),), ("vec", 0), ((("xs",), "xs"),)), "run"), True)
        part = one_function(EXPR, (("expr", ("arrow", 0, 1)),), ("expr", 1), (((("keep", "a"),), "a"),))
        self.assertEqual(cover_paper(part, "run")[0], "missing")
        self.assertIs(check_cover(part, "run", cover_paper(part, "run")), True)

    def test_functions_without_clauses(self):
        self.assertEqual(cover_paper(BOTH, "run")[0], "covered")
        none = one_function(V, (("fin", 0),), ("fin", 0), ())
        self.assertEqual(cover_paper(none, "run")[0], "missing")
        never = one_function(V, (("fin", ("zero",)),), ("vec", 0), ())
        self.assertEqual(cover_paper(never, "run")[0], "covered")
        self.assertEqual(useless_clauses(never, "run"), [])
        nothing = one_function(EMPTY, (("none", 0),), ("none", 1), ())
        self.assertEqual(cover_paper(nothing, "run")[0], "covered")
        self.assertIs(check_cover(nothing, "run", ("covered", ("split", (0,), ()))), True)
        self.assertIs(check_cover(nothing, "run", ("covered", ("empty", (1, ((0,),), ((),))))), True)

    def test_makers_without_values(self):
        lost = one_function(PARITY, (("never", 0),), ("never", 0), ())
        self.assertIs(is_covered(lost, "run"), True)
        self.assertIs(check_cover(lost, "run", ("covered", ("split", (0,), (("empty", HALVES),)))), True)
        self.assertIs(check_cover(lost, "run", ("covered", ("empty", HALVES))), True)
        self.assertIs(check_cover(lost, "run", ("covered", ("split", (0,), (CLASH,)))), False)
        taken = one_function(PARITY, (("never", 0),), ("never", 0), (((("stuck", "a"),), "a"), (("b",), "b")))
        self.assertEqual(useless_clauses(taken, "run"), [0, 1])
        self.assertIs(is_covered(taken, "run"), True)

    def test_papers_are_right(self):
        words = {}
        for seed in range(216):
            program = some_program(seed)
            for function in program[1]:
                found = cover_paper(program, function[0])
                words[found[0]] = words.get(found[0], 0) + 1
                self.assertTrue(is_right_cover(program, function[0], found), (program, found))
                self.assertIs(check_cover(program, function[0], found), True)
                self.assertIs(is_covered(program, function[0]), found[0] == "covered")
                useless = []
                for k in range(len(function[3])):
                    found = reach_paper(program, function[0], k)
                    words[found[0]] = words.get(found[0], 0) + 1
                    self.assertTrue(is_right_reach(program, function[0], k, found), (program, k, found))
                    self.assertIs(check_reach(program, function[0], k, found), True)
                    useless.extend([k] if found[0] == "useless" else [])
                self.assertTrue(same(useless_clauses(program, function[0]), useless))
        self.assertGreater(min(words.values()), 80)
        self.assertEqual(len(words), 4)

    def test_small_inputs(self):
        tried = 0
        for seed in range(60):
            program = some_program(seed)
            for function in program[1]:
                if max(len(values_up_to(program[0], 3)[family]) for family, index in function[1]) > 25:
                    continue
                firsts = {}
                for values in inputs_up_to(program[0], function, 3):
                    firsts[plain_first(function, values)] = values
                tried += len(firsts)
                if is_covered(program, function[0]):
                    self.assertNotIn(None, firsts)
                for k in useless_clauses(program, function[0]):
                    self.assertNotIn(k, firsts)
                # Papers with what was found are right too.
                for k, values in firsts.items():
                    if k is None:
                        self.assertIs(check_cover(program, function[0], ("missing", values)), True)
                    else:
                        self.assertIs(check_reach(program, function[0], k, ("used", values)), True)
        self.assertGreater(tried, 60)


class CoverChecks(unittest.TestCase):
    def test_papers_of_others(self):
        self.assertIs(check_cover(P, "place", ("covered", TREE)), True)
        # More splits than needed, and in another order.
        deeper = ("split", (0, 1), (("split", (0, 0), (("clause", 0), ("clause", 0))), ("clause", 1)))
        self.assertIs(check_cover(P, "place", ("covered", ("split", (0,), (CLASH, deeper)))), True)
        self.assertIs(check_cover(ENTRY, "run", ("covered", ("split", (1,), (
            ("split", (0,), (CLASH, ("clause", 0))), ("split", (0,), (CLASH, ("clause", 1))))))), True)
        self.assertIs(check_cover(ENTRY, "run", ("covered", ("split", (0,), (
            ("empty", TWO), ("split", (1,), (("clause", 0), ("clause", 1))))))), True)
        self.assertIs(check_cover(BOTH, "run", ("covered", ("empty", HALVES))), True)
        short = (V, (P[1][0][:3] + (P[1][0][3][1:],),))
        self.assertIs(check_cover(short, "place", ("missing", (("cons", bounded(9), NIL),))), True)
        self.assertIs(check_cover(short, "place", ("missing", (("cons", FIRST, NIL),))), True)

    def test_wrong_trees(self):
        first, second = ("clause", 0), ("clause", 1)
        wrong = [first, second, CLASH, ("empty", TWO), ("empty", ONE), (), None, ("split",), "clash", ["clash"],
                 ("split", (0,), (CLASH, first)), ("split", (0,), (CLASH, second)), ("split", (0,), (CLASH, CLASH)),
                 ("split", (0,), (first, TREE[2][1])), ("split", (0,), (("empty", TWO), TREE[2][1])),
                 ("split", (0,), (("clash", 0), TREE[2][1])), ("split", (0,), (TREE[2][1], CLASH)),
                 ("split", (0,), (CLASH, ("split", (0, 1), (second, first)))),
                 ("split", (0,), (CLASH, ("split", (0, 0), (first, second)))),
                 ("split", (0,), (CLASH, ("split", (0, 1), (("clause", False), ("clause", True))))),
                 ("split", (0,), (CLASH, ("split", (0, 1), (("clause", 0), ("clause", 2))))),
                 ("split", (0,), (CLASH, ("split", (0, 1), (("clause", -2), ("clause", -1))))),
                 ("split", (0,), (CLASH, ("split", (0, 1), (("clause", 0, 0), second)))),
                 ("split", (0,), (CLASH, ("split", (0, 1), (("clause",), second)))),
                 ("split", (0,), (CLASH, ("split", (0, 1), (("clause", "0"), second)))),
                 ("split", (0,), (CLASH, ("split", (0, 1), (("Clause", 0), second)))),
                 ("split", (0,), (CLASH, ("split", (0, 1), ((["clause"], 0), second)))),
                 ("split", (0,), TREE[2], ()), ("split", (0,)), ("split", TREE[2], (0,)), ("split", (0,), TREE[2][:1]),
                 ("split", (0,), TREE[2] + (CLASH,)), ("split", (0,), list(TREE[2])), ("split", (0,), ()),
                 ("split", (0,), (CLASH, list(TREE[2][1]))), ("split", (0,), None), (0, (0,), TREE[2])]
        for tree in wrong:
            self.assertIs(check_cover(P, "place", ("covered", tree)), False, tree)

    def test_splits_at_places_that_are_none(self):
        for place in [(), (1,), (-1,), (2,), (0, 0), (0, 1), (True,), (False,), (0.0,), ("0",), (None,), [0], 0, None,
                      (0, -1), ((0,),), "0", (10 ** 20,)]:
            self.assertIs(check_cover(P, "place", ("covered", ("split", place, TREE[2]))), False, place)
        for place in [(), (0,), (1,), (0, 2), (0, -1), (0, -2), (0, 3), (0, 1, 0), (0, 0, 0), (0, True), (False, 1),
                      [0, 1], (0, 1.0), (0, "1"), (0, None), (0, 10 ** 20), (-1, 1), (1, 1)]:
            tree = ("split", (0,), (CLASH, ("split", place, TREE[2][1][2])))
            self.assertIs(check_cover(P, "place", ("covered", tree)), False, place)

    def test_wrong_models(self):
        for model in [TWO, ONE, HALVES[:2], (2, ((0,), (1, 0)), ((1,), (0,), (2,))), list(HALVES), None, (),
                      (2, ((0,), (1, 0)), ((0, 1), (0, 1), (0, 1))), (2, ((0,), (1, 1)), ((1,), (0,), ())), True]:
            self.assertIs(check_cover(BOTH, "run", ("covered", ("empty", model))), False, model)
        self.assertIs(check_cover(BOTH, "run", ("covered", ("empty", HALVES, ()))), False)
        self.assertIs(check_cover(BOTH, "run", ("covered", ("empty",))), False)
        for state in (True, False):
            model = (2, ((0,), (1, 0)), ((1,), (state,), ()))
            self.assertIs(check_cover(BOTH, "run", ("covered", ("empty", model))), False)
        # The same model with a boolean in it is wrong, also after the right one was seen.
        one, two = ("empty", HALVES), ("empty", (2, ((0,), (True, 0)), ((1,), (0,), ())))
        for below, wanted in [((one, one), True), ((one, two), False), ((two, one), False)]:
            self.assertIs(check_cover(BOTH, "run", ("covered", ("split", (1,), below))), wanted)

    def test_wrong_missing_inputs(self):
        short = (V, (P[1][0][:3] + (P[1][0][3][:1],),))
        self.assertIs(check_cover(short, "place", ("missing", (vector(2),))), True)
        for values in [(NIL,), (vector(1),), (vector(2), vector(2)), (), vector(2), [vector(2)], (list(vector(2)),),
                       (FIRST,), (("cons", FIRST),), (("cons", FIRST, (0, "vec")),), ("xs",), (None,), None,
                       (("cons", FIRST, ("cons", ("more", NIL), NIL)),), ((),)]:
            self.assertIs(check_cover(short, "place", ("missing", values)), False, values)
        self.assertIs(check_cover(P, "place", ("missing", (vector(2),))), False)
        self.assertIs(check_cover(ENTRY, "run", ("missing", (NIL, FIRST))), False)
        one = (V, (ENTRY[1][0][:3] + (ENTRY[1][0][3][:1],),))
        self.assertIs(check_cover(one, "run", ("missing", (vector(2), bounded(1)))), True)
        self.assertIs(check_cover(one, "run", ("missing", (vector(1), bounded(1)))), False)
        self.assertIs(check_cover(one, "run", ("missing", (bounded(1), vector(2)))), False)
        ill = ("keep", ("apply", ("null",), ("null",)))
        lone = one_function(EXPR, (("expr", ("arrow", 0, 1)),), ("expr", 1), ())
        self.assertIs(check_cover(lone, "run", ("missing", (ill,))), False)
        self.assertIs(check_cover(lone, "run", ("missing", (("keep", ("null",)),))), True)
        for part, wanted in [(("true",), True), ((0, "expr"), False), (("first",), False)]:
            value = ("apply", ("keep", ("keep", ("null",))), part)
            self.assertIs(check_cover(lone, "run", ("missing", (value,))), wanted)

    def test_values_of_no_form(self):
        for value in ODDITIES + [("covered",), ("covered", TREE, ()), ["covered", TREE], (TREE, "covered"), TREE,
                                 ("missing", TREE), ("used", (NIL,)), ("useless", TREE), ("Covered", TREE), (1, TREE)]:
            self.assertIs(check_cover(P, "place", value), False, repr(value))
        for mutant in agreeable_mutants(("covered", TREE)):
            self.assertIs(check_cover(P, "place", mutant), False)
        deep = CLASH
        for _ in range(45):
            deep = ("split", (0,), (deep, deep))
        self.assertIs(check_cover(P, "place", ("covered", deep)), False)

    def test_changed_papers_by_the_words(self):
        papers = [(P, "place", ("covered", TREE)), (BOTH, "run", ("covered", ("empty", HALVES)))]
        for seed in range(24):
            program = some_program(seed)
            papers.extend([(program, function[0], cover_paper(program, function[0])) for function in program[1]])
        for program, word, paper in papers:
            for mutant in structure_mutants(paper)[:250]:
                wanted = is_right_cover(program, word, mutant)
                self.assertIs(check_cover(program, word, mutant), wanted, repr((program, mutant)))


class Reach(unittest.TestCase):
    def test_known_ones(self):
        self.assertEqual(reach_paper(P, "place", 0)[0], "used")
        self.assertEqual(reach_paper(P, "place", 1)[0], "used")
        self.assertEqual(useless_clauses(P, "place"), [])
        again = (V, (P[1][0][:3] + (P[1][0][3] + (P[1][0][3][0], (("xs",), FIRST)),),))
        self.assertEqual(useless_clauses(again, "place"), [2, 3])
        self.assertEqual(useless_clauses((V, (again[1][0][:3] + (again[1][0][3][::-1],),)), "place"), [1, 2, 3])
        nil = one_function(V, (("vec", ("succ", 0)),), ("fin", ("succ", 0)), (((NIL,), FIRST), (("xs",), FIRST)))
        # The patterns of the first clause do not fit.
        self.assertEqual(useless_clauses(nil, "run"), [0])
        self.assertIs(check_reach(nil, "run", 0, ("useless", CLASH)), True)
        self.assertIs(check_reach(nil, "run", 1, ("useless", CLASH)), False)
        self.assertIs(check_reach(nil, "run", 0, ("used", (NIL,))), False)
        self.assertIs(check_reach(nil, "run", 1, ("used", (NIL,))), False)
        self.assertIs(check_reach(nil, "run", 1, ("used", (vector(1),))), True)

    def test_clauses_made_useless_together(self):
        program = one_function(V, (("vec", 0),), ("vec", 0), (((NIL,), NIL), ((("cons", "a", "b"),), NIL),
                                                              (("c",), "c")))
        self.assertEqual(useless_clauses(program, "run"), [2])
        tree = ("split", (0,), (("clause", 0), ("clause", 1)))
        self.assertIs(check_reach(program, "run", 2, ("useless", tree)), True)
        self.assertIs(check_cover(program, "run", ("covered", tree)), True)
        self.assertIs(check_cover(program, "run", ("covered", ("clause", 2))), True)
        # Only earlier clauses are allowed.
        for k in range(3):
            for j in range(-1, 4):
                self.assertIs(check_reach(program, "run", k, ("useless", ("clause", j))), False)
            self.assertIs(check_reach(program, "run", k, ("useless", tree)), k == 2)
        self.assertIs(check_reach(program, "run", 2, ("useless", ("split", (0,), (("clause", 0), ("clause", 2))))),
                      False)

    def test_variables_that_are_called_like_makers(self):
        letters = (NUMBERS, ("f",), (("a", "f", 0, ()), ("b", "f", 0, (("f", 0),))))
        program = one_function(letters, (("f", 0), ("f", 0)), ("f", 0), (
            ((("a",), "b"), "b"), (("a", ("b", "c")), "a"), (("a", "b"), "a"), (("b", "a"), "a")))
        self.assertEqual(useless_clauses(program, "run"), [3])
        self.assertIs(check_reach(program, "run", 1, ("useless", ("clause", 0))), False)
        self.assertIs(check_reach(program, "run", 2, ("useless", ("clause", 1))), False)
        self.assertIs(check_reach(program, "run", 3, ("useless", ("clause", 2))), True)
        self.assertIs(check_cover(program, "run", ("covered", ("clause", 0))), False)

    def test_clauses_without_values(self):
        program = one_function(PARITY, (("odd", 0), ("even", ("succ", 0))), ("odd", 0), (
            ((("up", "none"), "b"), ("up", "none")), (("a", "b"), "a"), ((("up", ("none",)), ("upper", "b")), "b")))
        self.assertEqual(useless_clauses(program, "run"), [1, 2])
        empty = one_function(COUNTED, (("one", 0), ("great", 0)), ("one", 0), ((("a", "b"), "a"),))
        self.assertEqual(useless_clauses(empty, "run"), [0])
        model = answer(COUNTED, (("one", 0), ("great", 0)))[1]
        self.assertIs(check_reach(empty, "run", 0, ("useless", ("empty", model))), True)
        self.assertIs(check_reach(empty, "run", 0, ("useless", CLASH)), False)

    def test_wrong_papers(self):
        for value in ODDITIES + [("used", (NIL,)), ("used", (vector(1),)), ("used",), ("used", vector(2)),
                                 ("covered", TREE),
                                 ("missing", (vector(2),)), ["used", (vector(2),)], ("used", [vector(2)]),
                                 ("used", (vector(2),), ()), ("useless", TREE), ("useless", CLASH),
                                 ("useless", ("clause", 0)), ("useless", ("clause", 1)), ("used", (bounded(2),)),
                                 ("used", (vector(2), vector(2))), ("Used", (vector(2),)), (None, (vector(2),))]:
            self.assertIs(check_reach(P, "place", 1, value), False, repr(value))
        self.assertIs(check_reach(P, "place", 1, ("used", (vector(2),))), True)
        for mutant in agreeable_mutants(("used", (vector(2),))):
            self.assertIs(check_reach(P, "place", 1, mutant), False)

    def test_changed_papers_by_the_words(self):
        for seed in range(24):
            program = some_program(seed)
            for function in program[1]:
                for k in range(len(function[3])):
                    paper = reach_paper(program, function[0], k)
                    for mutant in structure_mutants(paper)[:120]:
                        wanted = is_right_reach(program, function[0], k, mutant)
                        self.assertIs(check_reach(program, function[0], k, mutant), wanted, repr((program, k, mutant)))


class Sizes(unittest.TestCase):
    def test_patterns_with_many_makers(self):
        wide = (NUMBERS, ("f",), tuple([("z" + letter, "f", ("zero",), ()) for letter in "abcdefg"]
                                       + [("n", "f", ("succ", 0), (("f", 0),) * 3)]))
        names = iter([a + b for a in "abcdefghijk" for b in "abcdefghijk"])

        def dense(height):
            return next(names) if height == 0 else ("n", dense(height - 1), dense(height - 1), dense(height - 1))

        patterns = tuple(dense(3) for _ in range(3))
        for index, covered, used in [(number(5), True, True), (number(3), True, True), (0, False, True),
                                     (number(2), False, False)]:
            program = one_function(wide, (("f", index),) * 3, ("f", index), ((patterns, patterns[0][1]),))
            found, reached = cover_paper(program, "run"), reach_paper(program, "run", 0)
            self.assertEqual((found[0], reached[0]), ("covered" if covered else "missing",
                                                      "used" if used else "useless"))
            self.assertIs(check_cover(program, "run", found), True)
            self.assertIs(check_reach(program, "run", 0, reached), True)

    def test_many_profiles(self):
        for seed in range(12):
            program = random_program(seed, [REGISTER, FORMS][seed % 2], chance=1)
            for function in program[1]:
                self.assertIs(check_cover(program, function[0], cover_paper(program, function[0])), True)


if __name__ == "__main__":
    unittest.main()
