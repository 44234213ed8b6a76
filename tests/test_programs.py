"""Programs, their functions, and which clause matches (points 10.1 to 10.4)."""

import random
import unittest

from casefamilies.errors import Unknown
from casefamilies.programs import first_clause, function_of, is_program, matched
from drafts import P, random_program
from plain_programs import function_named, is_plain_program, plain_first, plain_matched
from reference import values_up_to
from samples import (
    EMPTY, EXPR, ODDITIES, V, agreeable_mutants, bounded, lively_signature, same, structure_mutants, vector)

FIRST = ("first",)
NIL = ("nil",)
VEC = ("vec", ("succ", 0))
FIN = ("fin", ("succ", 0))
PLACE = P[1][0]


def with_function(*parts):
    return (V, (parts,))


def with_clause(*clause):
    return (V, (PLACE[:3] + ((clause,),),))


class Programs(unittest.TestCase):
    def test_right_ones(self):
        for program in [P, (V, ()), (EMPTY, ()), with_function("f", (VEC,), FIN, ()),
                        with_function("fin", (VEC,), FIN, ()),
                        with_function("zero", (VEC, VEC, VEC), FIN, ()), with_clause(("a",), FIRST),
                        with_clause(("nil",), ("place", "nil")), with_clause(("first",), FIRST),
                        with_clause((NIL,), ("more", ("more", FIRST))), with_clause(("place",), ("place", "place")),
                        (V, (PLACE, ("other", (VEC,), FIN, ((("xs",), ("place", "xs")),)))),
                        (V, tuple((word, (VEC,), FIN, ((("xs",), (word, "xs")),)) for word in ["f", "g", "h", "k"]))]:
            self.assertTrue(is_plain_program(program), program)
            self.assertIs(is_program(program), True)

    def test_functions_without_clauses(self):
        for arguments in [(VEC,), (VEC, FIN), (("vec", 0), ("fin", 1), ("vec", 2))]:
            self.assertIs(is_program(with_function("f", arguments, ("fin", 0), ())), True)
        for arguments in [(), (VEC,) * 4, VEC, [VEC], (VEC, None), ("vec",), (("vec",),), (("none", 0),),
                          (("vec", -1),)]:
            self.assertIs(is_program(with_function("f", arguments, ("fin", 0), ())), False)

    def test_indices_and_their_variables(self):
        deep = ("succ", ("succ", ("succ", ("succ", ("succ", 0)))))
        self.assertIs(is_program(with_function("f", (("vec", deep),), ("fin", deep), ())), True)
        self.assertIs(is_program(with_function("f", (("vec", ("succ", deep)),), FIN, ())), False)
        self.assertIs(is_program(with_function("f", (("vec", 0),), ("fin", ("succ", deep)), ())), False)
        self.assertIs(is_program((EXPR, (("f", (("expr", ("arrow", ("arrow", 0, 1), ("arrow", 2, 0))),),
                                         ("expr", 0), ()),))), False)
        for indices, wanted in [((0, 1, 2, 3), True), ((0, 0, 0, 1), True), ((0, 2, 1, 3), False),
                                ((1, 0, 0, 0), False),
                                ((0, 0, 0, 0), True), ((0, 1, 1, 2), True), ((0, 1, 1, 3), False),
                                (("zero",) * 4, False), ((("zero",), ("zero",), ("zero",), 0), True),
                                ((("zero",), 0, ("succ", 1), ("succ", 2)), True), ((0, 1, 2, True), False)]:
            types = [("vec", index) for index in indices]
            program = with_function("f", tuple(types[:3]), types[3], ())
            self.assertIs(is_program(program), wanted, indices)
        four = (("expr", ("arrow", 0, 1)), ("expr", ("arrow", 2, 3)))
        self.assertIs(is_program((EXPR, (("f", four, ("expr", ("arrow", 0, 3)), ()),))), True)
        self.assertIs(is_program((EXPR, (("f", four, ("expr", 4), ()),))), False)
        five = (("expr", ("arrow", 0, 1)), ("expr", ("arrow", 2, 3)), ("expr", 4))
        self.assertIs(is_program((EXPR, (("f", five, ("expr", 0), ()),))), False)

    def test_numbers_of_functions_and_clauses(self):
        clause = (("xs",), FIRST)
        for many in range(9):
            self.assertIs(is_program((V, (PLACE[:3] + ((clause,) * many,),))), many <= 6)
        names = ["f", "g", "h", "k", "l", "m"]
        for many in range(7):
            self.assertIs(is_program((V, tuple((word,) + PLACE[1:3] + ((),) for word in names[:many]))), many <= 4)

    def test_names(self):
        for word, wanted in [("f", True), ("abcdefghijkl", True), ("abcdefghijklm", False), ("", False), ("A", False),
                             ("a b", False), ("first", False), ("cons", False), ("vec", True), ("zero", True),
                             ("f\n", False), (0, False), (None, False), (("f",), False)]:
            self.assertIs(is_program(with_function(word, (VEC,), FIN, ())), wanted, word)
        self.assertIs(is_program((V, (PLACE, PLACE))), False)
        self.assertIs(is_program((V, (PLACE, ("place", (FIN,), FIN, ())))), False)

    def test_greatest_heights(self):
        def tall(n, leaf):
            return leaf if n == 0 else ("more", tall(n - 1, leaf))

        for n in range(7):
            patterns = (tall(n, "a"),)
            program = with_function("f", (("fin", 0),), ("fin", 0), ((patterns, "a"),))
            self.assertIs(is_program(program), n <= 3, n)
            program = with_function("f", (("fin", 0),), ("fin", 0), ((("a",), tall(n, "a")),))
            self.assertIs(is_program(program), n <= 5, n)
            # A tuple without parts has the height 1.
            program = with_function("f", (("fin", 0),), ("fin", 0), (((tall(n, FIRST),), FIRST),))
            self.assertIs(is_program(program), n <= 2, n)
            program = with_function("f", (("fin", 0),), ("fin", 0), ((("a",), tall(n, FIRST)),))
            self.assertIs(is_program(program), n <= 4, n)
            self.assertIs(is_plain_program(program), n <= 4)

    def test_families(self):
        wrong = [((FIRST,), FIRST), (("xs",), "xs"), (("xs",), NIL), ((("cons", NIL, "xs"),), FIRST),
                 ((("cons", "a", FIRST),), FIRST), ((("cons", "a", "xs"),), "xs"), (("xs",), ("more", "xs")),
                 (("xs",), ("place", FIRST)), (("xs",), ("cons", FIRST, "xs")), ((("place", "xs"),), FIRST),
                 ((("cons", ("place", "xs"), "ys"),), FIRST), (("xs",), ("more", ("place", ("more", "xs"))))]
        for clause in wrong:
            self.assertIs(is_program(with_clause(*clause)), False, clause)
        for clause in [((("cons", "a", "xs"),), "a"), ((("cons", "a", "xs"),), ("place", "xs")),
                       ((("cons", ("more", "a"), ("cons", "b", "xs")),),
                        ("place", ("cons", "a", ("cons", "b", "xs"))))]:
            self.assertIs(is_program(with_clause(*clause)), True, clause)

    def test_variables(self):
        for clause, wanted in [((("cons", "a", ("cons", "a", "ys")),), False), ((("cons", "a", "a"),), False),
                               ((("cons", "a", "b"),), True)]:
            self.assertIs(is_program(with_clause(clause, FIRST)), wanted, clause)
        two = ("two", (VEC, VEC), FIN)
        self.assertIs(is_program((V, (two + (((("a", "a"), FIRST),),),))), False)
        self.assertIs(is_program((V, (two + (((("a", "b"), FIRST),),),))), True)
        self.assertIs(is_program(with_clause(("xs",), "a")), False)
        self.assertIs(is_program(with_clause(("xs",), ("more", "a"))), False)
        for name in ["A", "", "a\n", "abcdefghijklm", "a1", 0, True, None, b"a", ["a"], ()]:
            self.assertIs(is_program(with_clause((name,), FIRST)), False, name)

    def test_wrong_clauses(self):
        for clause in [(), (("xs",),), (("xs",), FIRST, ()), (["xs"], FIRST), (("xs", "ys"), FIRST), ((), FIRST),
                       ("xs", FIRST), (("xs",), ["first"]), (("xs",), ()), (("xs",), None), (("xs",), ("first", FIRST)),
                       (("xs",), ("more",)), (("xs",), "first"), ((("cons", "a"),), FIRST), ((("cons",),), FIRST),
                       ((["cons", "a", "b"],), FIRST), (((),), FIRST), (("xs",), ("none", "xs")), (("xs",), (0,)),
                       (("xs",), (True, "xs")), (("xs",), ("place", "xs", "xs")), (("xs",), (("place",), "xs"))]:
            self.assertIs(is_program((V, (PLACE[:3] + ((clause,),),))), False, clause)
            self.assertIs(is_program((V, (PLACE[:3] + (PLACE[3] + (clause,),),))), False, clause)
        self.assertIs(is_program((V, (PLACE[:3] + ([(("xs",), FIRST)],),))), False)
        self.assertIs(is_program((V, (PLACE[:3] + ((("xs",), FIRST),),))), False)

    def test_values_of_no_form(self):
        wrong = [V, (V,), (V, (), ()), [V, ()], (V, []), (V, [PLACE]), ((), ()), (V[:2], ()), (V, PLACE), (V, None),
                 (None, ()), (V, {}), P[::-1], P[1], (V, ((),)), (V, (None,)), (V, (PLACE[:3],)), (V, (list(PLACE),))]
        for value in wrong + ODDITIES:
            self.assertIs(is_program(value), False, repr(value))
        deep = NIL
        for _ in range(95):
            deep = ("cons", FIRST, deep)
        self.assertIs(is_program(with_clause((deep,), FIRST)), False)
        self.assertIs(is_program(with_clause(("xs",), ("place", deep))), False)

    def test_changed_programs_by_the_words(self):
        for program in [P, random_program(3, V), random_program(8, EXPR)]:
            self.assertIs(is_program(program), True)
            for mutant in structure_mutants(program[1]):
                self.assertIs(is_program((program[0], mutant)), is_plain_program((program[0], mutant)), repr(mutant))
        for mutant in structure_mutants(P)[:400]:
            self.assertIs(is_program(mutant), is_plain_program(mutant), repr(mutant))
        for mutant in agreeable_mutants(P):
            self.assertIs(is_program(mutant), False)

    def test_random_programs(self):
        for seed in range(150):
            program = random_program(seed, None if seed % 2 else lively_signature(seed))
            self.assertTrue(is_plain_program(program))
            self.assertIs(is_program(program), True)


class Functions(unittest.TestCase):
    def test_function_of(self):
        self.assertEqual(function_of(P, "place"), PLACE)
        more = (V, (PLACE, ("f", (FIN,), FIN, ()), ("g", (VEC,), FIN, ())))
        self.assertEqual(function_of(more, "g"), more[1][2])
        self.assertEqual(function_of(more, "f"), more[1][1])

    def test_names_that_are_not_there(self):
        for program, word in [(P, "none"), (P, "cons"), (P, "vec"), (P, "plac"), (P, "places"), (P, ""),
                              ((V, ()), "place"),
                              (P, "zero")]:
            with self.assertRaises(Unknown, msg=word):
                function_of(program, word)


class Matches(unittest.TestCase):
    def test_known_ones(self):
        pair = ("cons", FIRST, ("cons", bounded(1), NIL))
        self.assertEqual(matched(("xs",), (pair,)), {"xs": pair})
        self.assertEqual(matched((("cons", "a", "xs"),), (pair,)), {"a": FIRST, "xs": pair[2]})
        self.assertEqual(matched((("cons", FIRST, ("cons", ("more", "a"), NIL)),), (pair,)), {"a": FIRST})
        self.assertEqual(matched((("cons", "a", NIL),), (pair,)), None)
        self.assertEqual(matched((("cons", ("more", "b"), "xs"),), (pair,)), None)
        self.assertEqual(matched((NIL,), (NIL,)), {})
        self.assertEqual(matched((NIL,), (pair,)), None)
        self.assertEqual(matched(("a", "b"), (FIRST, NIL)), {"a": FIRST, "b": NIL})
        self.assertEqual(matched(("a", NIL), (FIRST, NIL)), {"a": FIRST})
        self.assertEqual(matched((FIRST, ("cons", "x", "y"), "z"), (FIRST, pair, NIL)),
                         {"x": FIRST, "y": pair[2], "z": NIL})
        self.assertIsNone(matched((FIRST, "z"), (bounded(1), NIL)))
        self.assertIsNone(matched(("z", FIRST), (NIL, bounded(1))))
        self.assertEqual(matched((), ()), {})
        # A variable may be called like a maker.
        self.assertEqual(matched(("nil",), (pair,)), {"nil": pair})

    def test_by_the_words(self):
        found = 0
        for seed in range(80):
            program = random_program(seed, lively_signature(seed))
            listed = values_up_to(program[0], 3)
            rng = random.Random(seed)
            for function in program[1]:
                if not all(listed[family] for family, index in function[1]):
                    continue
                for _ in range(15):
                    values = tuple(rng.choice(listed[family]) for family, index in function[1])
                    for patterns, body in function[3]:
                        names = {}
                        fits = all(plain_matched(*row, names) for row in zip(patterns, values))
                        self.assertTrue(same(matched(patterns, values), names if fits else None))
                    k = first_clause(program, function[0], values)
                    self.assertTrue(same(k, plain_first(function_named(program, function[0]), values)))
                    found += k is not None
        self.assertGreater(found, 300)

    def test_first_clause(self):
        self.assertIsNone(first_clause(P, "place", (NIL,)))
        self.assertEqual(first_clause(P, "place", (vector(1),)), 0)
        self.assertEqual(first_clause(P, "place", (vector(2),)), 1)
        self.assertEqual(first_clause(P, "place", (vector(40),)), 1)
        both = (V, (PLACE[:3] + (((("xs",), FIRST), ((NIL,), FIRST)),),))
        self.assertEqual(first_clause(both, "place", (NIL,)), 0)
        turned = (V, (PLACE[:3] + ((((NIL,), FIRST), (("xs",), FIRST)),),))
        self.assertEqual(first_clause(turned, "place", (NIL,)), 0)
        self.assertEqual(first_clause(turned, "place", (vector(1),)), 1)
        self.assertIsNone(first_clause((V, (PLACE[:3] + ((),),)), "place", (NIL,)))

    def test_values_without_a_type_are_matched_too(self):
        ill = ("apply", ("null",), ("null",))
        program = (EXPR, (("f", (("expr", 0),), ("expr", 0), (((("apply", "a", "b"),), "a"),)),))
        self.assertEqual(first_clause(program, "f", (ill,)), 0)

    def test_what_is_returned_is_new(self):
        matched(("a",), (NIL,)).clear()
        self.assertEqual(matched(("a",), (NIL,)), {"a": NIL})


if __name__ == "__main__":
    unittest.main()
