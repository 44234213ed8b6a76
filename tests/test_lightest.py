"""Values of a given weight, and the lightest solutions (part 8)."""

import random
import unittest

from casefamilies.answers import has_solution
from casefamilies.lightest import least_weight, lightest, values_of
from plain_goals import plain_solutions, plainly_solves
from reference import values_up_to
from samples import (
    COUNTED, EMPTY, EXPR, NAMED, NUMBERS, PARITY, TREES, V, bounded, lively_signature, nodes_of, number,
    random_goal, random_signature, random_term, same, vector)

FIRST = ("first",)
NIL = ("nil",)


def some_signature(seed):
    return (NAMED + [random_signature(seed), lively_signature(seed)] * 6)[seed % 20]


def total(values):
    return sum(nodes_of(value) for value in values)


class Values(unittest.TestCase):
    def test_known_ones(self):
        self.assertEqual(values_of(V, "fin", 0, 1), [FIRST])
        self.assertEqual(values_of(V, "fin", 0, 4), [bounded(3)])
        self.assertEqual(values_of(V, "fin", number(2), 2), [bounded(1)])
        self.assertEqual(values_of(V, "fin", number(2), 3), [])
        self.assertEqual(values_of(V, "vec", 0, 1), [NIL])
        self.assertEqual(values_of(V, "vec", number(1), 4), [("cons", ("more", FIRST), NIL)])
        self.assertEqual(values_of(V, "vec", number(2), 6),
                         [("cons", FIRST, ("cons", bounded(1), NIL)), ("cons", bounded(1), vector(1))])
        self.assertEqual(values_of(EXPR, "expr", ("nat",), 4),
                         [("apply", ("keep", ("null",)), ("null",)), ("apply", ("keep", ("null",)), ("true",))])

    def test_bounds_without_values(self):
        for n in [0, -1, -7, -10 ** 20]:
            self.assertEqual(values_of(V, "vec", 0, n), [])
            self.assertEqual(values_of(EMPTY, "none", 0, n), [])
        self.assertEqual(values_of(V, "vec", 0, 2), [])
        for n in range(7):
            self.assertEqual(values_of(EMPTY, "none", 0, n), [])
            self.assertEqual(values_of(PARITY, "never", 0, n), [])
            self.assertEqual(values_of(V, "fin", number(0), n), [])

    def test_a_value_fits_if_one_of_its_indices_does(self):
        # The index of keep(null) is an arrow from anything.
        for index in [0, ("arrow", 0, 1), ("arrow", 0, ("nat",)), ("arrow", ("void",), ("nat",)),
                      ("arrow", ("arrow", 5, 5), 2), ("arrow", 0, 0)]:
            self.assertEqual(values_of(EXPR, "expr", index, 2)[:1], [("keep", ("null",))], index)
        self.assertEqual(values_of(EXPR, "expr", ("arrow", 0, ("bool",)), 2), [("keep", ("true",))])
        self.assertEqual(values_of(EXPR, "expr", ("arrow", ("arrow", 0, 1), 0), 2),
                         [("keep", ("null",)), ("keep", ("true",))])
        self.assertEqual(values_of(EXPR, "expr", ("arrow", 0, ("arrow", 1, 0)), 2), [])
        self.assertEqual(values_of(EXPR, "expr", ("arrow", 0, ("arrow", 1, 0)), 3),
                         [("keep", ("keep", ("null",))), ("keep", ("keep", ("true",)))])

    def test_by_trying_all_values(self):
        for seed in range(120):
            signature = some_signature(seed)
            rng = random.Random(seed)
            listed = values_up_to(signature, 5)
            for _ in range(2):
                family = rng.choice(signature[1])
                index = random_term(rng, signature[0], 3, rng.randint(1, 5))
                for n in range(1, 6):
                    if len(listed[family]) < 800:
                        wanted = sorted(value for value in listed[family] if nodes_of(value) == n
                                        and plainly_solves(signature, ((family, index),), (value,)))
                        self.assertTrue(same(values_of(signature, family, index, n), wanted))

    def test_greatest_weight(self):
        for signature in NAMED:
            listed = values_up_to(signature, 6)
            for family in signature[1]:
                wanted = sorted(value for value in listed[family] if nodes_of(value) == 6
                                and plainly_solves(signature, ((family, 0),), (value,)))
                self.assertEqual(values_of(signature, family, 0, 6), wanted)

    def test_many_values_end_soon(self):
        makers = [("a" + letter, "f", 0, ()) for letter in "abc"]
        makers += [("b" + letter, "f", ("node", 0, 1), (("f", 0), ("f", 1))) for letter in "ab"]
        makers += [("c" + letter, "f", ("node", 0, 1), (("f", 0), ("f", 1), ("f", 2))) for letter in "abc"]
        many = (TREES, ("f",), tuple(makers))
        found = values_of(many, "f", 0, 6)
        self.assertEqual(len(found), 2430)
        self.assertEqual(found, sorted(found))

    def test_what_is_returned_is_new(self):
        values_of(V, "fin", 0, 1).clear()
        self.assertEqual(values_of(V, "fin", 0, 1), [FIRST])


class Lightest(unittest.TestCase):
    def test_known_ones(self):
        goal = (("fin", 0), ("vec", 0))
        self.assertEqual(least_weight(V, goal, 6), 4)
        self.assertEqual(lightest(V, goal, 6), (FIRST, ("cons", FIRST, NIL)))
        self.assertEqual(lightest(V, (("vec", number(2)), ("fin", number(2))), 6), (vector(2), FIRST))
        self.assertEqual(lightest(PARITY, (("odd", 0), ("even", ("succ", 0))), 6), (("up", ("none",)),
                                                                                   ("upper", ("up", ("none",)))))
        self.assertEqual(lightest(EXPR, (("expr", ("arrow", 0, 0)),), 6), (("keep", ("null",)),))
        # The first in the order of Python, not the one that is found first.
        order = (NUMBERS, ("f",), (("z", "f", 0, ()), ("a", "f", ("succ", 0), (("f", 0),)),
                                   ("b", "f", ("succ", 0), ())))
        self.assertEqual(lightest(order, (("f", 0),), 6), (("b",),))
        self.assertEqual(lightest(order, (("f", ("zero",)), ("f", 0)), 6), (("z",), ("b",)))
        turned = (NUMBERS, ("f",), (("z", "f", 0, ()), ("k", "f", 0, ()), ("b", "f", 0, (("f", 0),)),
                                    ("q", "f", 0, ())))
        self.assertEqual(lightest(turned, (("f", 0), ("f", 0)), 6), (("k",), ("k",)))
        self.assertEqual(values_of(turned, "f", ("zero",), 2), [("b", ("k",)), ("b", ("q",)), ("b", ("z",))])

    def test_bounds(self):
        goal = (("fin", 0), ("vec", 0))
        for most in [-5, -1, 0, 1, 2, 3]:
            self.assertIsNone(least_weight(V, goal, most))
            self.assertIsNone(lightest(V, goal, most))
        for most in [4, 5, 6]:
            self.assertEqual(least_weight(V, goal, most), 4)
            self.assertIsNotNone(lightest(V, goal, most))
        for most in [0, 1, 6]:
            self.assertEqual(least_weight(V, (), most), 0)
            self.assertEqual(lightest(V, (), most), ())
        for most in [-1, -2, -10 ** 20]:
            self.assertIsNone(least_weight(V, (), most))
            self.assertIsNone(lightest(V, (), most))
            self.assertIsNone(least_weight(V, (("vec", 0),), most))

    def test_goals_without_solutions(self):
        for signature, goal in [(V, (("fin", ("zero",)),)), (PARITY, (("odd", 0), ("even", 0))),
                                (EMPTY, (("none", 0),)),
                                (COUNTED, (("one", 0), ("great", 0))), (PARITY, (("even", 0), ("never", 1)))]:
            for most in [-1, 0, 3, 6]:
                self.assertIsNone(least_weight(signature, goal, most))
                self.assertIsNone(lightest(signature, goal, most))

    def test_variables_in_several_types(self):
        self.assertIsNone(least_weight(V, (("vec", 0), ("vec", ("succ", 0)), ("fin", ("zero",))), 6))
        self.assertEqual(least_weight(V, (("vec", 0), ("vec", ("succ", 0))), 6), 4)
        self.assertEqual(least_weight(V, (("vec", 0), ("vec", ("succ", 1))), 6), 4)
        self.assertEqual(least_weight(V, (("fin", 0), ("fin", 0), ("vec", 0)), 6), 5)

    def test_by_trying_all_tuples(self):
        seen = {None: 0}
        for seed in range(160):
            signature = some_signature(seed)
            # The order of the makers is not that of their names.
            signature = signature[:2] + (signature[2][::-1],)
            goal = random_goal(random.Random(seed), signature, 3)
            if sum(len(values) for values in values_up_to(signature, 5).values()) > 400:
                continue
            found = plain_solutions(signature, goal, 5)
            least = min([total(row) for row in found], default=None)
            seen[least] = seen.get(least, 0) + 1
            self.assertEqual(least_weight(signature, goal, 5), least)
            wanted = None if least is None else min(row for row in found if total(row) == least)
            self.assertTrue(same(lightest(signature, goal, 5), wanted))
        self.assertGreater(len(seen), 4)
        self.assertGreater(seen[None], 20)

    def test_solutions_are_light_or_there_are_none(self):
        for seed in range(100):
            signature = some_signature(seed)
            goal = random_goal(random.Random(seed + 1), signature, 3)
            found = lightest(signature, goal, 6)
            if found is not None:
                self.assertTrue(plainly_solves(signature, goal, found))
                self.assertEqual(least_weight(signature, goal, 6), total(found))
                self.assertIs(has_solution(signature, goal), True)
            elif not has_solution(signature, goal):
                self.assertIsNone(least_weight(signature, goal, 6))


if __name__ == "__main__":
    unittest.main()
