"""Numbers of values and the ranks of values (part 9)."""

import random
import unittest

from casefamilies.counting import count_solutions, count_values, index_classes, rank, unrank
from casefamilies.errors import NotThere
from casefamilies.lightest import values_of
from casefamilies.terms import size, write_term
from plain_goals import plain_index, plain_solutions
from reference import values_up_to
from samples import (
    COUNTED, EMPTY, EXPR, FORMS, NAMED, PARITY, V, bounded, lively_signature, nodes_of, number, random_goal,
    random_signature, random_term, same, vector)

FIRST = ("first",)
NIL = ("nil",)


def some_signature(seed):
    return (NAMED + [random_signature(seed), lively_signature(seed)] * 6)[seed % 20]


class Classes(unittest.TestCase):
    def test_known_ones(self):
        self.assertEqual(index_classes(V, "fin", 2), [(("succ", ("succ", 0)), 1)])
        self.assertEqual(index_classes(V, "vec", 1), [(("zero",), 1)])
        self.assertEqual(index_classes(V, "vec", 2), [])
        self.assertEqual(index_classes(V, "vec", 6), [(number(1), 1), (number(2), 2)])
        self.assertEqual(index_classes(EXPR, "expr", 1), [(("bool",), 1), (("nat",), 1)])
        self.assertEqual(index_classes(EXPR, "expr", 2), [(("arrow", 0, ("bool",)), 1), (("arrow", 0, ("nat",)), 1)])
        self.assertEqual(index_classes(PARITY, "never", 3), [])
        self.assertEqual(index_classes(EMPTY, "none", 1), [])

    def test_no_weights(self):
        for n in [0, -1, -6, -10 ** 20]:
            for family in V[1]:
                self.assertEqual(index_classes(V, family, n), [])

    def test_by_trying_all_values(self):
        for seed in range(100):
            signature = some_signature(seed)
            for family, values in values_up_to(signature, 5).items():
                if len(values) > 600:
                    continue
                for n in range(1, 6):
                    counts = {}
                    for value in values:
                        index = plain_index(signature, value) if nodes_of(value) == n else None
                        if index is not None:
                            counts[index] = counts.get(index, 0) + 1
                    wanted = sorted(counts.items(), key=lambda row: (size(row[0]), write_term(row[0])))
                    found = index_classes(signature, family, n)
                    self.assertTrue(same(found, wanted), (signature, family, n, found, wanted))

    def test_what_is_returned_is_new(self):
        index_classes(V, "fin", 2).clear()
        self.assertEqual(len(index_classes(V, "fin", 2)), 1)


class Counts(unittest.TestCase):
    def test_known_ones(self):
        self.assertEqual(count_values(V, "vec", number(2), 6), 2)
        self.assertEqual(count_values(V, "vec", number(2), 5), 1)
        self.assertEqual(count_values(V, "vec", 0, 6), 3)
        self.assertEqual(count_values(V, "vec", ("succ", 0), 6), 3)
        self.assertEqual(count_values(V, "fin", number(0), 3), 0)
        self.assertEqual(count_solutions(V, (("vec", 0), ("vec", 0)), 6), 1)
        self.assertEqual(count_solutions(V, (("vec", 0), ("vec", 1)), 4), 2)

    def test_weights_without_values(self):
        for n in [0, -1, -10 ** 20]:
            self.assertEqual(count_values(V, "vec", 0, n), 0)
            self.assertEqual(count_solutions(V, (("vec", 0), ("fin", 0)), n), 0)
        self.assertEqual(count_solutions(V, (("vec", 0), ("fin", 1)), 1), 0)

    def test_goals_without_types(self):
        for n in [-1, 1, 2, 6]:
            self.assertEqual(count_solutions(V, (), n), 0)
        self.assertEqual(count_solutions(V, (), 0), 1)

    def test_a_tuple_counts_once(self):
        # Each value solves this with many terms for the variables.
        self.assertEqual(count_solutions(EXPR, (("expr", ("arrow", 0, 1)),), 2), 2)
        self.assertEqual(count_solutions(V, (("fin", 0), ("fin", 1)), 4), 3)
        self.assertEqual(count_solutions(V, (("fin", 0), ("fin", 0)), 4), 3)

    def test_by_trying_all_tuples(self):
        numbers = {}
        for seed in range(160):
            signature = some_signature(seed)
            rng = random.Random(seed + 7)
            goal = random_goal(rng, signature, 3)
            if sum(len(values) for values in values_up_to(signature, 5).values()) > 400:
                continue
            rows = plain_solutions(signature, goal, 5)
            for n in range(-1, 6):
                wanted = len([row for row in rows if sum(nodes_of(value) for value in row) == n])
                numbers[wanted] = True
                found = count_solutions(signature, goal, n)
                self.assertTrue(same(found, wanted), (signature, goal, n, found, wanted))
                if len(goal) == 1:
                    self.assertTrue(same(count_values(signature, goal[0][0], goal[0][1], n), wanted))
        self.assertGreater(len(numbers), 10)

    def test_numbers_and_lists_agree(self):
        for seed in range(100):
            signature = some_signature(seed)
            rng = random.Random(seed)
            family = rng.choice(signature[1])
            index = random_term(rng, signature[0], 3, 4)
            for n in range(7):
                listed = values_of(signature, family, index, n)
                self.assertEqual(count_values(signature, family, index, n), len(listed))
                whole = sum(number for term, number in index_classes(signature, family, n))
                self.assertEqual(whole, len(values_of(signature, family, 0, n)))


class Ranks(unittest.TestCase):
    def test_known_ones(self):
        self.assertEqual(unrank(V, "vec", number(1), 4, 0), ("cons", bounded(1), NIL))
        self.assertEqual(rank(V, "vec", number(1), ("cons", bounded(1), NIL)), 0)
        self.assertEqual(rank(V, "vec", number(2), ("cons", FIRST, ("cons", bounded(1), NIL))), 0)
        self.assertEqual(rank(V, "vec", 0, ("cons", FIRST, ("cons", bounded(1), NIL))), 0)
        self.assertEqual(rank(V, "vec", 0, ("cons", bounded(1), vector(1))), 1)
        self.assertEqual(rank(V, "vec", number(2), ("cons", bounded(1), vector(1))), 1)
        self.assertEqual(rank(V, "vec", 0, ("cons", bounded(3), NIL)), 2)
        self.assertEqual(rank(V, "vec", number(1), ("cons", bounded(3), NIL)), 0)

    def test_all_ranks(self):
        tried = 0
        for seed in range(60):
            signature = some_signature(seed)
            rng = random.Random(seed)
            family = rng.choice(signature[1])
            index = random_term(rng, signature[0], 2, 4)
            for n in range(1, 6):
                listed = values_of(signature, family, index, n)
                for k, value in list(enumerate(listed))[:8] + list(enumerate(listed))[-2:]:
                    tried += 1
                    self.assertTrue(same(rank(signature, family, index, value), k))
                    self.assertTrue(same(unrank(signature, family, index, n, k), value))
                for k in [-1, -len(listed), len(listed), len(listed) + 1, 10 ** 20]:
                    if not 0 <= k < len(listed):
                        with self.assertRaises(NotThere):
                            unrank(signature, family, index, n, k)
        self.assertGreater(tried, 200)

    def test_ranks_that_no_value_has(self):
        for n, k in [(0, 0), (-1, 0), (2, 0), (4, 1), (4, -1), (6, 3), (6, 10 ** 20), (-10 ** 20, 0), (1, 1), (1, -1)]:
            with self.assertRaises(NotThere, msg=(n, k)):
                unrank(V, "vec", 0, n, k)
        with self.assertRaises(NotThere):
            unrank(EMPTY, "none", 0, 1, 0)
        with self.assertRaises(NotThere):
            unrank(V, "fin", number(0), 1, 0)

    def test_values_that_do_not_fit(self):
        for family, index, value in [("vec", number(2), vector(1)), ("fin", number(1), bounded(1)), ("vec", 0, FIRST),
                                     ("fin", 0, NIL), ("vec", ("zero",), vector(1)), ("fin", ("zero",), FIRST),
                                     ("vec", ("succ", 0), NIL), ("vec", number(3), vector(40)), ("fin", 0, vector(60))]:
            with self.assertRaises(NotThere, msg=value):
                rank(V, family, index, value)
        ill = ("apply", ("null",), ("null",))
        with self.assertRaises(NotThere):
            rank(EXPR, "expr", 0, ill)
        with self.assertRaises(NotThere):
            rank(EXPR, "expr", ("arrow", 0, ("arrow", 1, 0)), ("keep", ("null",)))
        self.assertEqual(rank(EXPR, "expr", ("arrow", 0, 0), ("keep", ("true",))), 1)
        self.assertEqual(rank(COUNTED, "two", 0, ("low",)), 0)
        self.assertEqual(rank(FORMS, "both", 0, ("lone",)), 0)


if __name__ == "__main__":
    unittest.main()
