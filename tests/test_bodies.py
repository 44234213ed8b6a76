"""Body papers, and what is wrong with clauses (part 12)."""

import unittest

from casefamilies.bodies import body_paper, check_body, clause_fault, faults
from casefamilies.programs import is_program
from drafts import P, random_program
from plain_programs import has_plain_body, is_right_body, wanted_index
from samples import (
    EXPR, FORMS, NAMED, NUMBERS, ODDITIES, PARITY, V, agreeable_mutants, lively_signature, number, same,
    structure_mutants)

FIRST = ("first",)
NIL = ("nil",)
ZERO = ("zero",)
FIN = ("fin", ("succ", 0))
VEC = ("vec", ("succ", 0))
LAST = ("more", (("succ", 0),), (("place", (0,), (("cons", (0, 2), ("b", "ys")),)),))


def one_function(signature, arguments, result, *clauses):
    program = (signature, (("run", arguments, result, clauses),))
    assert is_program(program), program
    return program


def some_program(seed):
    signature = (NAMED + [None, lively_signature(seed)] * 8)[seed % 24]
    return random_program(seed, signature, arguments=2, height=2, chance=0.5)


class Papers(unittest.TestCase):
    def test_known_ones(self):
        self.assertEqual(body_paper(P, "place", 0), ("first", (ZERO,), ()))
        self.assertEqual(body_paper(P, "place", 1), LAST)
        copy = one_function(V, (("vec", 0),), ("vec", 0), (("xs",), "xs"), ((NIL,), NIL))
        self.assertEqual(body_paper(copy, "run", 0), "xs")
        self.assertEqual(body_paper(copy, "run", 1), ("nil", (), ()))

    def test_variables_are_not_replaced(self):
        # The indices of the variables stand for unknown terms: 0 is not 1, and not zero.
        two = (("vec", 0), ("vec", 1))
        for result, body, wanted in [(0, "a", True), (0, "b", False), (1, "a", False), (1, "b", True), (0, NIL, False),
                                     (("succ", 0), "a", False), (("succ", 1), ("cons", FIRST, "b"), True),
                                     (("succ", 0), ("cons", FIRST, "b"), False), (2, "a", False)]:
            program = one_function(V, two, ("vec", result), (("a", "b"), body))
            found = body_paper(program, "run", 0)
            self.assertIs(found is not None, wanted, (result, body))
            self.assertEqual(clause_fault(program, "run", 0), "" if wanted else "body")
            if wanted:
                self.assertTrue(is_right_body(program, "run", 0, found))
        below = one_function(V, (VEC,), ("fin", 0), (("xs",), FIRST))
        self.assertIsNone(body_paper(below, "run", 0))

    def test_patterns_tell_more_about_the_indices(self):
        program = one_function(V, (("vec", 0),), ("vec", ("succ", ("succ", 0))), (
            (("cons", "a", ("cons", "b", NIL)),), ("cons", "a", ("cons", "b", ("cons", "a", ("cons", "b", NIL))))),
            ((("cons", "a", NIL),), ("cons", "a", NIL)), ((NIL,), ("cons", FIRST, ("cons", FIRST, NIL))))
        self.assertEqual(faults(program), [("run", 1, "body")])
        for k in (0, 2):
            self.assertTrue(is_right_body(program, "run", k, body_paper(program, "run", k)))

    def test_patterns_that_do_not_fit(self):
        program = one_function(V, (VEC,), FIN, ((NIL,), FIRST), (("xs",), FIRST))
        self.assertIsNone(body_paper(program, "run", 0))
        self.assertEqual(clause_fault(program, "run", 0), "patterns")
        self.assertIs(check_body(program, "run", 0, ("first", (ZERO,), ())), False)
        self.assertEqual(clause_fault(program, "run", 1), "")
        self.assertEqual(faults(program), [("run", 0, "patterns")])

    def test_indices_without_a_unifier(self):
        # The argument's kind would have to be a part of itself.
        program = one_function(EXPR, (("expr", 0),), ("expr", 1), (("a",), ("apply", "a", "a")))
        self.assertIsNone(body_paper(program, "run", 0))
        self.assertEqual(clause_fault(program, "run", 0), "body")
        program = one_function(EXPR, (("expr", ("arrow", 0, 1)), ("expr", 0)), ("expr", 1),
                               (("a", "b"), ("apply", "a", "b")), (("a", "b"), ("apply", "b", "a")),
                               (("a", "b"), ("apply", ("keep", "b"), "a")), (("a", "b"), ("apply", ("keep", "a"), "b")))
        self.assertEqual(faults(program), [("run", 1, "body"), ("run", 2, "body"), ("run", 3, "body")])
        own = one_function(EXPR, (("expr", 0), ("expr", ("arrow", 0, 0))), ("expr", 0), (("a", "b"), ("run", "b", "b")),
                           (("a", "b"), ("run", ("run", "a", "b"), ("keep", "a"))), (("a", "b"), ("run", "a", "b")))
        self.assertEqual(faults(own), [("run", 0, "body")])

    def test_calls_within_calls(self):
        program = (PARITY, (
            ("half", (("even", 0),), ("even", ("succ", ("succ", 0))), ((("a",), ("upper", ("up", "a"))),)),
            ("next", (("even", 0), ("odd", 1)), ("odd", ("succ", ("succ", ("succ", 0)))), (
                (("a", "b"), ("up", ("half", "a"))), (("a", "b"), ("next", ("half", "a"), "b")),
                (("a", "b"), ("next", "a", ("next", ("half", ("half", "a")), "b"))),
                (("a", "b"), ("up", ("half", ("half", "a"))))))))
        self.assertIs(is_program(program), True)
        self.assertEqual(faults(program), [("next", 1, "body"), ("next", 3, "body")])
        self.assertEqual(body_paper(program, "next", 0), ("up", (("succ", ("succ", 0)),), (("half", (0,), ("a",)),)))
        found = body_paper(program, "next", 2)
        self.assertEqual(found[1][0], 0)
        self.assertTrue(is_right_body(program, "next", 2, found))
        self.assertIs(check_body(program, "next", 2, found), True)

    def test_what_is_free_may_be_anything(self):
        # The middle kind of the calls is not told by anything: apply(run, run) from an unknown kind.
        program = one_function(EXPR, (("expr", 0),), ("expr", 1), (("a",), ("apply", ("run", "a"), ("run", "a"))),
                               (("a",), ("run", "a")))
        found = body_paper(program, "run", 0)
        self.assertTrue(is_right_body(program, "run", 0, found))
        for term in [("nat",), 0, 1, 7, ("arrow", 5, ("void",))]:
            paper = ("apply", (1, term), (("run", (0, ("arrow", term, 1)), ("a",)), ("run", (0, term), ("a",))))
            self.assertIs(check_body(program, "run", 0, paper), True)
            self.assertIs(check_body(program, "run", 0, paper[:1] + ((1, ("bool",)),) + paper[2:]), False)
        self.assertEqual(body_paper(program, "run", 1), ("run", (0, 1), ("a",)))

    def test_papers_are_right(self):
        seen = {"patterns": 0, "body": 0, "": 0}
        for seed in range(500):
            program = some_program(seed)
            rows = []
            for function in program[1]:
                for k in range(len(function[3])):
                    found = body_paper(program, function[0], k)
                    if wanted_index(program, function[0], k) is None:
                        fault = "patterns"
                    else:
                        fault = "" if has_plain_body(program, function[0], k) else "body"
                    seen[fault] += 1
                    self.assertIs(found is None, fault != "", (program, k))
                    if fault == "":
                        self.assertTrue(is_right_body(program, function[0], k, found), (program, k, found))
                        self.assertIs(check_body(program, function[0], k, found), True)
                    self.assertEqual(clause_fault(program, function[0], k), fault)
                    rows.extend([(function[0], k, fault)] if fault else [])
            self.assertTrue(same(faults(program), rows))
        self.assertGreater(min(seen.values()), 100)


class Checks(unittest.TestCase):
    def test_papers_of_others(self):
        self.assertIs(check_body(P, "place", 0, ("first", (("zero",),), ())), True)
        self.assertIs(check_body(P, "place", 1, LAST), True)

    def test_wrong_papers(self):
        for value in ["first", ("first", (ZERO,)), ("first", ZERO, ()), ("first", (), ()), ("first", (ZERO, ZERO), ()),
                      ("first", (0,), ()), ("first", (number(1),), ()), ("first", (ZERO,), (ZERO,)), ("first", (ZERO,),
                                                                                                      []),
                      ("first", [ZERO], ()), ["first", (ZERO,), ()], ("more", (ZERO,), ()), ("first", (ZERO,), (), ()),
                      ("first", (True,), ()), ("first", (("none",),), ()), ("first", (("zero", 0),), ()), FIRST,
                      ("first", (-1,), ()), ("first", (None,), ()), (0, (ZERO,), ()), ("first\n", (ZERO,), ()), "a"]:
            self.assertIs(check_body(P, "place", 0, value), False, value)
        inner = ("cons", (0, 2), ("b", "ys"))

        def last(place):
            return ("more", (("succ", 0),), (place,))

        self.assertIs(check_body(P, "place", 1, last(("place", (0,), (inner,)))), True)
        for place in ["b", ("place", (0,), (inner, inner)), ("place", (0,), ()), ("place", (0, 0), (inner,)),
                      ("place", (1,), (inner,)), ("place", (("succ", 0),), (inner,)), ("first", (0,), ()),
                      ("place", (0,), (("cons", (0, 2), ("ys", "b")),)), ("place", (0,),
                                                                          (("cons", (2, 0), ("b", "ys")),)),
                      ("place", (0,), (("cons", (0, 1), ("b", "ys")),)), ("place", (0,),
                                                                          (("cons", (0, 2), ("a", "ys")),)),
                      ("place", (0,), (("cons", (0,), ("b", "ys")),)), ("place", (0,), (("cons", (0, 2), ("b",)),)),
                      ("place", (0,), (("cons", (0, 2), ["b", "ys"]),)), ("place", (0,), [inner]),
                      ("place", (0,), (("cons", (False, 2), ("b", "ys")),)), ("place", (False,), (inner,)),
                      ("place", (0,), (("cons", (0, 2), ("b\n", "ys")),)), ("place", (0,), (None,)),
                      ("place", (0,), (("nil", (), ()),))]:
            self.assertIs(check_body(P, "place", 1, last(place)), False, place)
        for value in ODDITIES:
            self.assertIs(check_body(P, "place", 0, value), False, repr(value))
            self.assertIs(check_body(P, "place", 1, value), False, repr(value))

    def test_variables(self):
        program = one_function(FORMS, (("both", 0), ("both", 0)), ("both", 0), (("a", "b"), "b"))
        for value in ["b", "a", ("b",), ["b"], "b\n", None, "", 0]:
            self.assertIs(check_body(program, "run", 0, value), value == "b")
        wrong = one_function(FORMS, (("both", 0), ("both", 1)), ("both", 0), (("a", "b"), "b"))
        self.assertIs(check_body(wrong, "run", 0, "b"), False)

    def test_things_that_claim_to_be_equal(self):
        for k, paper in [(0, ("first", (ZERO,), ())), (1, LAST)]:
            for mutant in agreeable_mutants(paper):
                self.assertIs(check_body(P, "place", k, mutant), False)

    def test_changed_papers_by_the_words(self):
        samples = [(P, "place", 0, body_paper(P, "place", 0)), (P, "place", 1, LAST)]
        for seed in range(120):
            program = some_program(seed)
            for function in program[1]:
                samples.extend([(program, function[0], k, body_paper(program, function[0], k))
                                for k in range(len(function[3]))])
        for program, word, k, paper in samples:
            if type(paper) is tuple:
                for mutant in structure_mutants(paper)[:150]:
                    wanted = is_right_body(program, word, k, mutant)
                    self.assertIs(check_body(program, word, k, mutant), wanted, repr((program, word, k, mutant)))

    def test_what_is_returned_is_new(self):
        program = one_function(V, (VEC,), FIN, ((NIL,), FIRST))
        faults(program).clear()
        self.assertEqual(faults(program), [("run", 0, "patterns")])
        self.assertEqual(faults((V, ())), [])
        self.assertEqual(faults(one_function((NUMBERS, ("f",), ()), (("f", 0),), ("f", 1))), [])


if __name__ == "__main__":
    unittest.main()
