"""Patterns at types (point 10.5)."""

import random
import unittest

from casefamilies.fits import fit
from drafts import random_pattern, random_program
from plain_goals import plainly_solves
from plain_programs import count_of, plain_fit
from reference import values_up_to
from samples import (
    EXPR, FORMS, PARITY, V, bounded, lively_signature, number, random_signature, random_term, same, vector)

NIL = ("nil",)
VEC = ("vec", ("succ", 0))


def filled(pattern, chosen):
    return chosen[pattern] if type(pattern) is str else (pattern[0],) + tuple(filled(part,
                                                                                     chosen) for part in pattern[1:])


class Fits(unittest.TestCase):
    def test_known_ones(self):
        self.assertEqual(fit(V, 1, (VEC,), (("cons", "a", ("cons", "b", "ys")),)),
                         ((("succ", 0),), (("a", "fin", ("succ", 1)), ("b", "fin", ("succ", 2)), ("ys", "vec", 0))))
        self.assertEqual(fit(V, 1, (VEC,), (("cons", "a", NIL),)), ((("zero",),), (("a", "fin", ("succ", 0)),)))
        self.assertEqual(fit(V, 1, (VEC,), ("xs",)), ((0,), (("xs", "vec", ("succ", 0)),)))
        self.assertEqual(fit(V, 1, (("vec", 0),), (NIL,)), ((("zero",),), ()))
        self.assertEqual(fit(V, 0, (("vec", number(1)),), (("cons", "a", "b"),)),
                         ((), (("a", "fin", ("succ", 0)), ("b", "vec", ("zero",)))))
        self.assertEqual(fit(V, 0, (), ()), ((), ()))
        # Both arguments have the same index.
        self.assertEqual(fit(V, 1, (("vec", 0), ("fin", 0)), (("cons", "a", "b"), "k")),
                         ((("succ", 0),), (("a", "fin", ("succ", 1)), ("b", "vec", 0), ("k", "fin", ("succ", 0)))))
        self.assertEqual(fit(V, 1, (("fin", 0), ("vec", 0)), ("k", ("cons", "a", ("cons", "b", "c")))),
                         ((("succ", ("succ", 0)),), (("k", "fin", ("succ", ("succ", 0))), ("a", "fin", ("succ", 1)),
                                                     ("b", "fin", ("succ", 2)), ("c", "vec", 0))))
        self.assertEqual(fit(EXPR, 1, (("expr", 0),), (("apply", ("keep", "a"), "b"),)),
                         ((0,), (("a", "expr", 0), ("b", "expr", 1))))
        self.assertEqual(fit(EXPR, 2, (("expr", ("arrow", 0, 1)),), (("keep", ("keep", "a")),)),
                         ((0, ("arrow", 1, 2)), (("a", "expr", 2),)))

    def test_patterns_that_do_not_fit(self):
        for types, patterns in [((VEC,), (NIL,)), ((("fin", ("zero",)),), (("first",),)),
                                ((("vec", number(1)),), (("cons", "a", ("cons", "b", "c")),)),
                                ((("vec", 0), ("fin", 0)), (NIL, ("more", "a"))),
                                ((("vec", 0), ("vec", ("succ", 0))), (("cons", "a", NIL), ("cons", "b", NIL))),
                                ((("vec", 0), ("vec", ("succ", 0))), ("a", NIL))]:
            self.assertIsNone(fit(V, 1, types, patterns))
        self.assertIsNone(fit(EXPR, 1, (("expr", ("arrow", 0, 0)),), (("null",),)))
        # The two sides of the index must be equal, and cannot be.
        self.assertIsNone(fit(EXPR, 1, (("expr", ("arrow", 0, 0)), ("expr", 0)), (("keep", ("keep", "a")), ("true",))))

    def test_more_variables_than_needed(self):
        self.assertEqual(fit(V, 3, (("vec", 1),), ("xs",)), ((0, 1, 2), (("xs", "vec", 1),)))
        self.assertEqual(fit(V, 3, (("vec", 1),), (NIL,)), ((0, ("zero",), 1), ()))
        self.assertEqual(fit(V, 3, (("vec", 1),), (("cons", "a", "b"),)),
                         ((0, ("succ", 1), 2), (("a", "fin", ("succ", 3)), ("b", "vec", 1))))
        self.assertEqual(fit(V, 2, (), ()), ((0, 1), ()))
        self.assertEqual(fit(V, 4, (("vec", 3), ("vec", 0)), ("a", "b")),
                         ((0, 1, 2, 3), (("a", "vec", 3), ("b", "vec", 0))))

    def test_types_without_variables(self):
        self.assertEqual(fit(V, 0, (("fin", number(2)),), (("more", "a"),)), ((), (("a", "fin", number(1)),)))
        self.assertIsNone(fit(V, 0, (("fin", number(1)),), (("more", ("more", "a")),)))
        self.assertEqual(fit(V, 0, (("fin", number(1)),), (("more", "a"),)), ((), (("a", "fin", ("zero",)),)))

    def test_rows_stand_in_the_order_of_the_variables(self):
        found = fit(FORMS, 1, (("both", 0),), (("mixed", ("onleft", "d", "b"), ("twice", "c", "a")),))
        self.assertEqual([row[0] for row in found[1]], ["d", "b", "c", "a"])
        self.assertEqual([row[1] for row in found[1]], ["both", "both", "left", "right"])

    def test_by_the_words(self):
        kinds = {None: 0, tuple: 0}
        for seed in range(500):
            signature = random_signature(seed) if seed % 2 else lively_signature(seed)
            rng = random.Random(seed)
            many = rng.choice([1, 2, 3, 4])
            types = tuple((rng.choice(signature[1]), random_term(rng, signature[0], many, 4))
                          for _ in range(rng.randint(0, 3)))
            names = [a + b for a in "abcdefghijk" for b in "abcdefghijk"]
            patterns = tuple(random_pattern(rng, signature, part[0], 3, 0.6, names) for part in types)
            wanted = plain_fit(signature, many, types, patterns)
            kinds[None if wanted is None else tuple] += 1
            self.assertTrue(same(fit(signature, many, types, patterns), wanted), (signature, types, patterns))
        self.assertGreater(min(kinds.values()), 80)

    def test_for_programs(self):
        for seed in range(60):
            program = random_program(seed, lively_signature(seed))
            for function in program[1]:
                for patterns, body in function[3]:
                    row = (program[0], count_of(function), function[1], patterns)
                    self.assertTrue(same(fit(*row), plain_fit(*row)))

    def test_values_for_the_rows_solve_the_types(self):
        # The remark of the point: what solves the goal of the rows leads to what solves the types.
        seen = {True: 0, False: 0}
        for seed in range(60):
            signature = [V, EXPR, PARITY, FORMS][seed % 4]
            rng = random.Random(seed)
            listed = values_up_to(signature, 3)
            types = tuple((rng.choice(signature[1]), random_term(rng, signature[0], 2, 3)) for _ in range(2))
            patterns = tuple(random_pattern(rng, signature, part[0], 2, 0.7, [str(k) + name for k in range(9)])
                             for name, part in zip("ab", types))
            found = fit(signature, 2, types, patterns)
            if found is None:
                continue
            for _ in range(10):
                pools = [[value for value in listed[row[1]]] for row in found[1]]
                if all(pools):
                    values = [rng.choice(pool) for pool in pools]
                    chosen = {row[0]: value for row, value in zip(found[1], values)}
                    whole = tuple(filled(pattern, chosen) for pattern in patterns)
                    solves = plainly_solves(signature, [row[1:] for row in found[1]], values)
                    seen[solves] += 1
                    self.assertIs(plainly_solves(signature, types, whole), solves)
        self.assertGreater(min(seen.values()), 30)

    def test_deep_patterns(self):
        self.assertEqual(fit(V, 1, (("vec", 0),), (vector(20),)), ((number(20),), ()))
        self.assertEqual(fit(V, 1, (("fin", 0),), (bounded(30),)), ((number_above(31, 0),), ()))


def number_above(n, term):
    return term if n == 0 else ("succ", number_above(n - 1, term))


if __name__ == "__main__":
    unittest.main()
