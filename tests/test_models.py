"""Models, and goals that fail in them (point 7.1)."""

import random
import unittest

from casefamilies.answers import answer
from casefamilies.models import fails_in, is_model, state_of
from casefamilies.signatures import is_signature
from plain_goals import is_plain_model, plainly_fails, state_in
from samples import (
    EMPTY, EXPR, FORMS, NAMED, ODDITIES, PARITY, REGISTER, V, agreeable_mutants, lively_signature, random_goal,
    random_signature, random_term, structure_mutants)

# One state for zero, and one for all other numbers.
TWO = (2, ((0,), (1, 1)), ((1,), (0, 1)))
# The remainders by 2, for PARITY: odd, even, and never.
HALVES = (2, ((0,), (1, 0)), ((1,), (0,), ()))
SIDES = (2, ((0,), (1, 0, 1, 0)), ((0, 1),) * 3)


def random_model(rng, signature):
    """Return something with the form of a model, and sets that are mostly full."""
    n = rng.choice([1, 1, 2, 2, 3, 4])
    tables = tuple(tuple(rng.randrange(n) for _ in range(n ** arity)) for word, arity in signature[0])
    sets = tuple(tuple(state for state in range(n) if rng.random() < 0.6) for _ in signature[1])
    return (n, tables, sets)


class Models(unittest.TestCase):
    def test_right_ones(self):
        for signature, model in [(V, TWO), (V, (1, ((0,), (0,)), ((0,), (0,)))), (PARITY, HALVES), (FORMS, SIDES),
                                 (V, (2, ((1,), (0, 0)), ((0, 1), (0, 1)))), (EMPTY, (1, ((0,),), ((),))),
                                 (EMPTY, (1, ((0,),), ((0,),)))]:
            self.assertIs(is_model(signature, model), True, model)
            self.assertTrue(is_plain_model(signature, model))

    def test_sixteen_states_and_more(self):
        for n in range(1, 17):
            self.assertIs(is_model(EMPTY, (n, ((n - 1,),), ((n - 1,),))), True)
            self.assertIs(is_model(EMPTY, (n, ((n - 1,),), (tuple(range(n)),))), True)
            self.assertIs(is_model(EMPTY, (n, ((n,),), ((),))), False)
        for n in [0, -1, 17, 18, 100, 10 ** 20]:
            self.assertIs(is_model(EMPTY, (n, ((0,),), ((),))), False)
        _, model = answer(REGISTER, (("fa", ("z",)),))
        self.assertEqual(model[0], 16)
        self.assertIs(is_model(REGISTER, model), True)
        self.assertTrue(is_plain_model(REGISTER, model))
        full = (16, ((0,),) + ((1,) * 16,) * 2 + ((2,) * 256,), (tuple(range(16)),) * 4)
        self.assertIs(is_model(REGISTER, full), True)
        self.assertIs(is_model(REGISTER, (17, ((0,),) + ((1,) * 17,) * 2 + ((2,) * 289,), (tuple(range(17)),) * 4)),
                      False)

    def test_makers_must_stay_within_the_sets(self):
        self.assertIs(is_model(V, (2, ((0,), (1, 1)), ((1,), (1,)))), False)
        self.assertIs(is_model(V, (2, ((0,), (1, 1)), ((), (0, 1)))), False)
        self.assertIs(is_model(V, (2, ((0,), (1, 1)), ((1,), (0,)))), False)
        self.assertIs(is_model(V, (2, ((0,), (1, 0)), ((1,), (0, 1)))), False)
        self.assertIs(is_model(V, (2, ((0,), (1, 0)), ((0, 1), (0, 1)))), True)
        self.assertIs(is_model(PARITY, (1, ((0,), (0,)), ((), (0,), ()))), False)
        # A variable stands for all states, also for one that no closed term has.
        self.assertIs(is_model(EXPR, (2, ((0,), (0,), (0,), (0, 1, 0, 0)), ((0,),))), True)
        self.assertIs(is_model(EXPR, (2, ((0,), (0,), (0,), (0, 1, 0, 1)), ((0,),))), True)
        self.assertIs(is_model(EXPR, (2, ((0,), (0,), (0,), (0, 0, 0, 0)), ((0,),))), False)
        self.assertIs(is_model(EXPR, (2, ((0,), (0,), (0,), (0, 1, 1, 0)), ((0,),))), False)

    def test_tables_of_a_wrong_length(self):
        zero, succ = TWO[1]
        for tables in [(zero,), (zero, succ, succ), (zero, succ + (1,)), (zero, (1,)), (zero + zero, succ), ((), succ),
                       (zero, ()), (), (succ, zero), zero, [zero, succ], (zero, list(succ)), ((zero,), succ), (zero,
                                                                                                               1)]:
            self.assertIs(is_model(V, (2, tables, TWO[2])), False, tables)
        for many in [0, 1, 2, 3, 5, 8, 16]:
            self.assertIs(is_model(FORMS, (2, ((0,), (0,) * many), SIDES[2])), False)
        self.assertIs(is_model(FORMS, (3, ((0,), (0,) * 8), SIDES[2])), False)
        self.assertIs(is_model(FORMS, (3, ((0,), (0,) * 9), ((0, 1, 2),) * 3)), True)

    def test_wrong_states_and_sets(self):
        fin, vec = TWO[2]
        for sets in [(fin,), (fin, vec, vec), (fin, (1, 0)), (fin, (0, 0, 1)), (fin, (0, 1, 1)), (fin, (0, 1, 2)),
                     (fin, (-1, 0, 1)), (fin, [0, 1]), [fin, vec], (fin, (0, True)), (fin, (False, 1)), ((1.0,), vec),
                     (("1",), vec), (1, vec), ((None,), vec), (), vec, ((fin,), vec)]:
            self.assertIs(is_model(V, (2, TWO[1], sets)), False, sets)
        for tables in [((2,), (1, 1)), ((0,), (1, 2)), ((0,), (-1, 1)), ((-2,), (1, 1)), ((0,), (1, True)),
                       ((False,), (1, 1)), ((0,), (1, 1.0)), ((0,), (1, "1")), ((0,), (1, None)), ((0,), (1, (1,)))]:
            self.assertIs(is_model(V, (2, tables, TWO[2])), False, tables)
        self.assertIs(is_model(V, (True, ((0,), (0,)), ((0,), (0,)))), False)
        self.assertIs(is_model(V, (1.0, ((0,), (0,)), ((0,), (0,)))), False)

    def test_values_of_no_form(self):
        for value in ODDITIES + [TWO + (0,), TWO[:2], list(TWO), (TWO,), TWO[::-1], "model"]:
            self.assertIs(is_model(V, value), False, repr(value))
        for mutant in agreeable_mutants(TWO) + agreeable_mutants(SIDES):
            self.assertIs(is_model(V, mutant), False)

    def test_changed_models_by_the_words(self):
        for signature, model in [(V, TWO), (PARITY, HALVES), (FORMS, SIDES), (EMPTY, (2, ((1,),), ((0,),)))]:
            for mutant in structure_mutants(model):
                self.assertIs(is_model(signature, mutant), is_plain_model(signature, mutant), repr(mutant))

    def test_random_ones_by_the_words(self):
        answers = {True: 0, False: 0}
        for seed in range(400):
            signature = random_signature(seed) if seed % 2 else lively_signature(seed)
            self.assertTrue(is_signature(signature))
            rng = random.Random(seed)
            for _ in range(10):
                model = random_model(rng, signature)
                wanted = is_plain_model(signature, model)
                answers[wanted] += 1
                self.assertIs(is_model(signature, model), wanted, model)
        self.assertGreater(min(answers.values()), 300)

    def test_what_is_found_is_a_model(self):
        for signature in NAMED:
            for family in signature[1]:
                for index in (0, signature[0][0][:1] if signature[0][0][1] == 0 else 1):
                    found = answer(signature, ((family, index),))
                    if found[0] == "empty":
                        self.assertTrue(is_plain_model(signature, found[1]))


class States(unittest.TestCase):
    def test_known_ones(self):
        self.assertEqual(state_of(V, TWO, ("zero",), {}), 0)
        self.assertEqual(state_of(V, TWO, ("succ", ("zero",)), {}), 1)
        self.assertEqual(state_of(V, TWO, ("succ", 7), {7: 1, 8: 0}), 1)
        self.assertEqual(state_of(V, TWO, 3, {3: 0}), 0)
        self.assertEqual(state_of(PARITY, HALVES, ("succ", ("succ", ("succ", 0))), {0: 1}), 0)
        # The state for the parts i and j stands at i * n + j.
        self.assertEqual(state_of(FORMS, SIDES, ("node", 0, 1), {0: 0, 1: 1}), 0)
        self.assertEqual(state_of(FORMS, (3, ((2,), (0, 1, 2, 2, 1, 0, 1, 0, 2)), ((),) * 3), ("node", 5, ("leaf",)),
                                  {5: 1}), 0)
        self.assertEqual(state_of(FORMS, (3, ((2,), (0, 1, 2, 2, 1, 0, 1, 0, 2)), ((),) * 3), ("node", ("leaf",), 5),
                                  {5: 1}), 0)
        self.assertEqual(state_of(FORMS, (3, ((2,), (0, 1, 2, 2, 1, 0, 1, 0, 2)), ((),) * 3), ("node", 4, 5),
                                  {4: 1, 5: 0}), 2)

    def test_random_ones(self):
        for seed in range(200):
            rng = random.Random(seed)
            signature = random_signature(seed)
            model = random_model(rng, signature)
            term = random_term(rng, signature[0], 3, 6)
            states = {variable: rng.randrange(model[0]) for variable in range(3)}
            self.assertEqual(state_of(signature, model, term, states), state_in(signature, model, term, states))


class Failing(unittest.TestCase):
    def test_known_ones(self):
        self.assertIs(fails_in(V, TWO, (("fin", ("zero",)),)), True)
        self.assertIs(fails_in(V, TWO, (("fin", 0),)), False)
        self.assertIs(fails_in(V, TWO, (("fin", ("succ", 0)), ("vec", 0))), False)
        # The same variable has the same state in several types.
        self.assertIs(fails_in(PARITY, HALVES, (("odd", 0), ("even", 0))), True)
        self.assertIs(fails_in(PARITY, HALVES, (("odd", 0), ("even", 1))), False)
        self.assertIs(fails_in(PARITY, HALVES, (("odd", 0), ("even", ("succ", 0)))), False)
        self.assertIs(fails_in(PARITY, HALVES, (("odd", 0), ("odd", ("succ", 0)))), True)
        self.assertIs(fails_in(PARITY, HALVES, (("never", 9),)), True)
        # One type without states is enough.
        self.assertIs(fails_in(PARITY, HALVES, (("odd", 0), ("never", 1))), True)

    def test_goals_without_types_never_fail(self):
        for signature, model in [(V, TWO), (PARITY, HALVES), (EMPTY, (1, ((0,),), ((),)))]:
            self.assertIs(fails_in(signature, model, ()), False)

    def test_random_ones(self):
        answers = {True: 0, False: 0}
        for seed in range(600):
            rng = random.Random(seed)
            signature = random_signature(seed)
            model = random_model(rng, signature)
            for _ in range(6):
                goal = random_goal(rng, signature, 4)
                wanted = plainly_fails(signature, model, goal)
                answers[wanted] += 1
                self.assertIs(fails_in(signature, model, goal), wanted, (signature, model, goal))
        self.assertGreater(min(answers.values()), 500)

    def test_parts_that_occur_several_times(self):
        # The state of a node depends on both of its parts, which are equal here.
        model = (3, ((0,), (0, 1, 2, 1, 2, 0, 2, 0, 1)), ((1,), (2,), (0,)))
        for goal in [(("left", ("node", 0, 0)),), (("left", ("node", 0, 0)), ("right", 0)),
                     (("left", ("node", 0, 1)), ("right", ("node", 1, 0))),
                     (("both", ("node", ("node", 0, 0), 0)), ("left", 0)),
                     (("both", ("node", ("node", 0, 0), ("node", 0, 0))), ("left", ("node", 0, 0)), ("right", 0))]:
            self.assertIs(fails_in(FORMS, model, goal), plainly_fails(FORMS, model, goal), goal)

    def test_many_variables(self):
        # A chain: each type shares a variable with the next one.
        chain = tuple([(family, index) for k in range(40)
                       for family, index in [("odd", 2 * k), ("even", ("succ", 2 * k)), ("even", 2 * k + 1)]])
        self.assertIs(fails_in(PARITY, HALVES, chain), False)
        self.assertIs(fails_in(PARITY, HALVES, chain + (("odd", ("succ", 60)),)), True)
        wheel = (3, ((0,), (0, 1, 2, 1, 2, 0, 2, 0, 1)), ((1,), (1,), (1,)))
        steps = tuple([("left", ("node", k, k + 1)) for k in range(60)])
        self.assertIs(fails_in(FORMS, wheel, steps), False)
        # The sums of neighbours are 1: the first and the third are equal, and so on.
        self.assertIs(fails_in(FORMS, wheel, steps + (("right", ("node", 0, 60)),)), False)
        self.assertIs(fails_in(FORMS, wheel, steps + (("right", ("node", 0, 60)), ("right", ("node", 60, ("leaf",))))),
                      True)

    def test_large_models_and_long_goals(self):
        _, model = answer(REGISTER, (("fa", ("z",)),))
        goal = tuple([(("fa", "fb", "fc", "fd")[k % 4], ("p", k, ("p", k + 1, k + 2))) for k in range(30)])
        self.assertIs(fails_in(REGISTER, model, goal), True)
        goal = tuple([("fd", ("p", k, ("p", k + 1, k + 2))) for k in range(30)])
        self.assertIs(fails_in(REGISTER, model, goal), answer(REGISTER, goal)[0] == "empty")

    def test_arguments_stay(self):
        states = {0: 1}
        state_of(V, TWO, ("succ", 0), states)
        self.assertEqual(states, {0: 1})


if __name__ == "__main__":
    unittest.main()
