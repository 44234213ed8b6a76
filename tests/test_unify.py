"""Unification (part 2)."""

import itertools
import random
import unittest

from casefamilies.terms import closed_terms, shifted, size, substituted, tidied, variables
from casefamilies.unify import join, match, meet, same_up_to_names, unifier
from reference import plain_match, plain_unifier
from samples import number, random_term, replaced, variables_of

PAIRS = (("zero", 0), ("succ", 1), ("pair", 2))
WORDS = (("zero", 0), ("one", 0), ("pair", 2), ("sum", 2))


class Unifier(unittest.TestCase):
    def check(self, equations):
        found = unifier(equations)
        other = plain_unifier(equations)
        if other is None:
            self.assertIsNone(found, equations)
            return
        self.assertIs(type(found), dict)
        asked = variables_of([term for pair in equations for term in pair])
        for one, two in equations:
            self.assertEqual(replaced(one, found), replaced(two, found))
        for variable, term in found.items():
            self.assertIn(variable, asked)
            if type(term) is int:
                self.assertLess(term, variable)
        self.assertFalse(set(found) & set(variables_of(list(found.values()))))
        for variable in asked:
            self.assertEqual(replaced(replaced(variable, found), other), replaced(variable, other))
            self.assertEqual(replaced(replaced(variable, other), found), replaced(variable, found))

    def test_known_ones(self):
        self.assertEqual(unifier([(("pair", 0, 1), ("pair", 2, ("succ", 0)))]), {2: 0, 1: ("succ", 0)})
        self.assertEqual(unifier([]), {})
        self.assertEqual(unifier([(3, 3)]), {})
        self.assertEqual(unifier([(5, 2)]), {5: 2})
        self.assertEqual(unifier([(2, 5)]), {5: 2})
        self.assertEqual(unifier([(5, 2), (5, 7)]), {5: 2, 7: 2})
        self.assertEqual(unifier([(0, ("succ", 1)), (1, ("zero",))]), {0: number(1), 1: number(0)})
        self.assertEqual(unifier([(number(2), number(2))]), {})

    def test_none(self):
        for equations in [[(("zero",), ("succ", 0))], [(0, ("succ", 0))], [(0, ("succ", 1)), (1, ("succ", 0))],
                          [(0, number(1)), (0, number(2))], [(("pair", 0, 0), ("pair", 1, ("succ", 1)))],
                          [(0, 1), (1, 2), (2, ("succ", 0))], [(number(3), number(4))]]:
            self.assertIsNone(unifier(equations), equations)

    def test_random_equations(self):
        rng = random.Random(3)
        for _ in range(3000):
            many = rng.randint(1, 6)
            words = rng.choice([PAIRS, WORDS])
            terms = [random_term(rng, words, many, rng.randint(1, 8)) for _ in range(8)]
            self.check(list(zip(terms[:4], terms[4:]))[:rng.randint(1, 4)])

    def test_equations_stay_as_they_are(self):
        equations = [(("pair", 0, 1), ("pair", 2, ("succ", 0)))]
        found = unifier(equations)
        found[9] = 9
        self.assertEqual(equations, [(("pair", 0, 1), ("pair", 2, ("succ", 0)))])
        self.assertEqual(unifier(equations), {2: 0, 1: ("succ", 0)})

    def test_great_ones(self):
        chain = [(k + 1, k) for k in range(99)]
        self.assertEqual(unifier(chain), {k: 0 for k in range(1, 100)})
        self.assertEqual(unifier(chain[::-1]), {k: 0 for k in range(1, 100)})
        steps = unifier([(k, ("succ", k + 1)) for k in range(60)])
        self.assertEqual(size(steps[0]), 61)
        self.assertIsNone(unifier([(k, ("succ", k + 1)) for k in range(40)] + [(40, ("succ", 0))]))
        # The same two classes meet again and again: each pair of them is looked at once only.
        doubled = [(k, ("pair", k + 1, k + 1)) for k in range(8)]
        doubled.extend((k, ("pair", k + 1, k + 1)) for k in range(20, 28))
        found = unifier(doubled + [(0, 20)])
        self.assertEqual(found[0], found[20])
        self.assertEqual(size(found[0]), 2 ** 9 - 1)
        self.assertEqual(unifier([(number(99), number(99))]), {})
        self.assertEqual(unifier([(shifted(replaced(number(90), {}), 0), 0)]), {0: number(90)})


class Match(unittest.TestCase):
    def test_known_ones(self):
        self.assertEqual(match(("pair", 0, 1), ("pair", 1, ("succ", 0))), {0: 1, 1: ("succ", 0)})
        self.assertEqual(match(0, 0), {0: 0})
        self.assertEqual(match(("succ", 0), ("succ", ("succ", 0))), {0: ("succ", 0)})
        self.assertEqual(match(("pair", 0, 0), ("pair", number(1), number(1))), {0: number(1)})
        self.assertEqual(match(number(3), number(3)), {})
        self.assertIsNone(match(("pair", 0, 0), ("pair", 0, 1)))
        self.assertIsNone(match(("pair", 0, 0), ("pair", number(1), number(2))))
        self.assertIsNone(match(("succ", 0), 0))
        self.assertIsNone(match(number(1), number(0)))
        self.assertIsNone(match(number(0), 3))
        self.assertIsNone(match(("pair", 0, 1), ("sum", 0, 1)))
        self.assertIsNone(match(("sum", 0, ("one",)), ("sum", 0, ("zero",))))
        self.assertIsNone(unifier([(("pair", 0, 1), ("sum", 2, 3))]))
        self.assertEqual(join(("pair", ("one",), 0), ("pair", ("zero",), 0)), ("pair", 0, 1))
        self.assertEqual(join(("pair", 1, 1), ("sum", 1, 1)), 0)

    def test_random_ones(self):
        rng = random.Random(4)
        for _ in range(3000):
            words = rng.choice([PAIRS, WORDS])
            p = random_term(rng, words, 3, rng.randint(1, 5))
            t = random_term(rng, words, 3, rng.randint(1, 7))
            if rng.random() < 0.5:
                t = replaced(p, {k: random_term(rng, words, 3, 4) for k in range(3)})
            found = match(p, t)
            self.assertEqual(found is not None, plain_match(p, t))
            if found is not None:
                self.assertEqual(sorted(found), sorted(variables_of([p])))
                self.assertEqual(substituted(p, found), t)


class MeetsAndJoins(unittest.TestCase):
    def test_known_meets(self):
        self.assertEqual(meet(("pair", 0, 0), ("pair", ("succ", 0), 1)), ("pair", ("succ", 0), ("succ", 0)))
        self.assertEqual(meet(5, 9), 0)
        self.assertEqual(meet(3, ("pair", 7, 2)), ("pair", 0, 1))
        self.assertEqual(meet(("pair", 1, 0), ("pair", 0, 1)), ("pair", 0, 1))
        self.assertEqual(meet(0, ("succ", 0)), ("succ", 0))
        self.assertIsNone(meet(number(0), ("succ", 0)))
        self.assertIsNone(meet(("pair", 0, 0), ("pair", 0, ("succ", 0))))

    def test_meets_have_the_common_instances(self):
        rng = random.Random(5)
        closed = [term for n in range(1, 6) for term in closed_terms(PAIRS, n)]
        for _ in range(400):
            p = random_term(rng, PAIRS, 3, 5)
            q = random_term(rng, PAIRS, 3, 5)
            found = meet(p, q)
            if found is None:
                self.assertFalse([t for t in closed if plain_match(p, t) and plain_match(q, t)])
                continue
            self.assertEqual(tidied((found,)), (found,))
            self.assertTrue(plain_match(p, found) and plain_match(q, found))
            for t in rng.sample(closed, 8):
                self.assertEqual(plain_match(found, t), plain_match(p, t) and plain_match(q, t))

    def test_known_joins(self):
        self.assertEqual(join(("pair", ("zero",), ("zero",)), ("pair", ("succ", 3), ("succ", 3))), ("pair", 0, 0))
        self.assertEqual(join(4, 4), 0)
        self.assertEqual(join(4, number(1)), 0)
        self.assertEqual(join(number(2), number(2)), number(2))
        self.assertEqual(join(number(2), number(3)), ("succ", ("succ", 0)))
        self.assertEqual(join(("pair", 0, 1), ("pair", 1, 0)), ("pair", 0, 1))
        self.assertEqual(join(("pair", 0, 0), ("pair", 0, 1)), ("pair", 0, 1))
        self.assertEqual(join(("pair", 0, 1), ("pair", 0, 0)), ("pair", 0, 1))

    def test_joins_are_the_least_ones_above(self):
        rng = random.Random(6)
        above = patterns(4)
        for _ in range(300):
            base = random_term(rng, PAIRS, 3, 5)
            p = replaced(base, {k: random_term(rng, PAIRS, 2, 3) for k in range(3)})
            q = replaced(base, {k: random_term(rng, PAIRS, 2, 3) for k in range(3)})
            found = join(p, q)
            self.assertEqual(tidied((found,)), (found,))
            self.assertTrue(plain_match(found, p) and plain_match(found, q))
            for r in rng.sample(above, 60) + [base]:
                if plain_match(r, p) and plain_match(r, q):
                    self.assertTrue(plain_match(r, found), (p, q, r))

    def test_same_up_to_names(self):
        self.assertIs(same_up_to_names(("pair", 0, 1), ("pair", 1, 0)), True)
        self.assertIs(same_up_to_names(("pair", 0, 1), ("pair", 7, 3)), True)
        self.assertIs(same_up_to_names(("pair", 0, 1), ("pair", 0, 0)), False)
        self.assertIs(same_up_to_names(("pair", 0, 0), ("pair", 0, 1)), False)
        self.assertIs(same_up_to_names(0, ("succ", 0)), False)
        self.assertIs(same_up_to_names(number(2), number(2)), True)
        self.assertIs(same_up_to_names(number(2), number(3)), False)
        self.assertIs(same_up_to_names(3, 8), True)

    def test_great_ones(self):
        rng = random.Random(7)
        for _ in range(20):
            p = random_term(rng, PAIRS, 5, 200)
            q = random_term(rng, PAIRS, 5, 200)
            self.assertTrue(plain_match(join(p, q), p))
            self.assertIs(same_up_to_names(p, shifted(p, 4)), True)
            self.assertEqual(meet(p, p), tidied((p,))[0])
            self.assertEqual(sorted(match(p, shifted(p, 1))), sorted(variables(p)))


def patterns(n):
    """Return terms with at most n nodes and the variables 0, 1, 2."""
    levels = {1: [0, 1, 2, ("zero",)]}
    for many in range(2, n + 1):
        levels[many] = [("succ", part) for part in levels[many - 1]]
        for k in range(1, many - 1):
            levels[many].extend(("pair", a, b) for a, b in itertools.product(levels[k], levels[many - 1 - k]))
    return [term for rows in levels.values() for term in rows]


if __name__ == "__main__":
    unittest.main()
