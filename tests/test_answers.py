"""Answers to goals, possible profiles, and makers without values (points 7.2 to 7.4)."""

import itertools
import random
import unittest

from casefamilies.answers import answer, check_answer, dead_makers, has_solution, possible
from casefamilies.indexsets import least_index
from casefamilies.profiles import profile, profiles
from casefamilies.terms import closed_terms
from casefamilies.values import derivation, weight
from plain_goals import is_right_answer, plain_solutions, plainly_solves
from reference import found_values, values_up_to
from samples import (
    COUNTED, DOWN, EMPTY, EXPR, FORMS, NAMED, NUMBERS, ODDITIES, PARITY, REGISTER, V, agreeable_mutants, bounded,
    instances, lively_signature, number, random_goal, random_signature, replaced, same, structure_mutants, variables_of,
    vector)

FIRST = ("first",)
TWO = (2, ((0,), (1, 1)), ((1,), (0, 1)))
GOAL = (("fin", 3), ("vec", ("succ", 3)))
FULL = ("full", ((3, number(2)),), (bounded(1), ("cons", bounded(2), vector(2))))
NO_FIN = (("fin", ("zero",)),)


def some_signature(seed):
    return (NAMED + [random_signature(seed), lively_signature(seed)] * 12)[seed % 30]


class Answers(unittest.TestCase):
    def test_known_ones(self):
        self.assertEqual(answer(V, ()), ("full", (), ()))
        self.assertEqual(answer(EMPTY, ()), ("full", (), ()))
        self.assertEqual(answer(V, (("vec", number(2)),)), ("full", (), (vector(2),)))
        self.assertEqual(answer(V, NO_FIN)[0], "empty")
        self.assertEqual(answer(V, (("fin", 3), ("vec", 3)))[0], "full")
        self.assertEqual(answer(EXPR, (("expr", ("void",)),))[0], "empty")
        self.assertEqual(answer(EMPTY, (("none", 0),))[0], "empty")

    def test_variables_in_several_types(self):
        self.assertIs(has_solution(PARITY, (("odd", 0), ("even", 1))), True)
        self.assertIs(has_solution(PARITY, (("odd", 0), ("even", 0))), False)
        self.assertIs(has_solution(PARITY, (("odd", 0), ("even", ("succ", 0)))), True)
        self.assertIs(has_solution(PARITY, (("odd", 0), ("odd", ("succ", 0)))), False)
        self.assertIs(has_solution(PARITY, (("odd", 0), ("odd", ("succ", ("succ", 0))))), True)
        self.assertIs(has_solution(COUNTED, (("one", 0), ("two", 0))), True)
        self.assertIs(has_solution(COUNTED, (("one", 0), ("great", 0))), False)
        self.assertIs(has_solution(COUNTED, (("two", 5), ("great", 5))), True)
        self.assertIs(has_solution(COUNTED, (("two", 5), ("great", ("succ", 5)), ("one", 5))), True)
        self.assertIs(has_solution(COUNTED, (("no", 5),)), False)
        self.assertIs(has_solution(DOWN, (("mark", 0), ("down", ("succ", 0)))), True)
        self.assertIs(has_solution(EXPR, (("expr", ("arrow", 0, ("void",))),)), False)

    def test_answers_are_right(self):
        words = {"full": 0, "empty": 0}
        for seed in range(300):
            signature = some_signature(seed)
            rng = random.Random(seed)
            for _ in range(3):
                goal = random_goal(rng, signature, 3)
                found = answer(signature, goal)
                words[found[0]] += 1
                self.assertTrue(is_right_answer(signature, goal, found, derivation), (signature, goal, found))
                self.assertIs(check_answer(signature, goal, found), True)
                self.assertIs(has_solution(signature, goal), found[0] == "full")
                self.assertEqual(bool(possible(signature, goal)), found[0] == "full")
        self.assertGreater(min(words.values()), 200)

    def test_goals_with_small_solutions_have_some(self):
        for seed in range(150):
            signature = some_signature(seed)
            goal = random_goal(random.Random(seed), signature, 2)
            if plain_solutions(signature, goal, 4):
                self.assertIs(has_solution(signature, goal), True)

    def test_values_are_small(self):
        # At zero there are only great values, and also at some steps above it.
        great = (NUMBERS, ("f", "g"), (
            ("low", "g", ("zero",), ()),
            ("up", "g", ("succ", 0), (("g", 0), ("g", 0))),
            ("hard", "f", ("zero",), (("g", number(5)), ("g", number(5)))),
            ("easy", "f", ("succ", 0), ())))
        for goal in [(("f", 0),), (("f", 0), ("f", 0)), (("f", ("succ", 0)), ("f", 0)), (("f", ("succ", 0)), ("g", 0))]:
            self.assertLessEqual(sum(weight(value) for value in answer(great, goal)[2]), 4, goal)

    def test_many_types(self):
        goal = tuple([("mark", ("succ", k)) for k in range(60)] + [("down", ("succ", ("succ", k))) for k in range(60)])
        self.assertTrue(is_right_answer(DOWN, goal, answer(DOWN, goal), derivation))
        goal = tuple([("fa", ("t", 0)), ("fd", ("p", 0, 1)), ("fb", 2), ("fc", ("s", 1)), ("fd", 0), ("fb", 1)])
        self.assertTrue(is_right_answer(REGISTER, goal, answer(REGISTER, goal), derivation))


class Checks(unittest.TestCase):
    def test_answers_of_others(self):
        right = [(V, (("fin", 3),), ("full", ((3, ("succ", ("zero",))),), (FIRST,))), (V, GOAL, FULL),
                 (V, NO_FIN, ("empty", TWO)), (V, (), ("full", (), ())),
                 (V, (("fin", 3),), ("full", ((3, number(40)),), (bounded(39),))),
                 (V, (("vec", 3),), ("full", ((3, number(40)),), (vector(40),))),
                 (EXPR, (("expr", 2), ("expr", 0)), ("full", ((0, ("bool",)), (2, ("nat",))), (("null",), ("true",)))),
                 (PARITY, (("odd", 0), ("even", 0)), ("empty", (2, ((0,), (1, 0)), ((1,), (0,), ())))),
                 (PARITY, (("never", 0),), ("empty", (1, ((0,), (0,)), ((0,), (0,), ()))))]
        for signature, goal, value in right:
            self.assertIs(check_answer(signature, goal, value), True, value)

    def test_wrong_answers(self):
        pair = ((3, number(2)),)
        values = FULL[2]
        wrong = [("empty", TWO), ("full", TWO), ("full",), ("full", pair), ("full", pair, values, ()), ("empty",),
                 ("full", ((2, number(2)),), values), ("full", (), values), ("full", pair * 2, values),
                 ("full", pair + ((4, number(2)),), values), ("full", ((1, number(2)),) + pair, values),
                 ("full", ((3, 3),), values), ("full", ((3, 0),), values), ("full", ((3, number(1)),), values),
                 ("full", ((3, number(3)),), values), ("full", ([3, number(2)],), values), ("full", list(pair), values),
                 ("full", ((True, number(2)),), values), ("full", ((3.0, number(2)),), values),
                 ("full", ((3, list(number(2))),), values), ("full", ((3,),), values), ("full", (3,), values),
                 ("full", ((3, number(2), 0),), values), ("full", {3: number(2)}, values), ("full", pair, list(values)),
                 ("full", pair, values[::-1]), ("full", pair, values[:1]), ("full", pair, values + values[:1]),
                 ("full", pair, (bounded(2), values[1])), ("full", pair, (values[0], vector(2))),
                 ("full", pair, (values[0], vector(3)[1])), ("full", pair, ((0, "fin"), values[1])),
                 ("full", pair, (None, values[1])), ("full", pair, ((), values[1])), ("full", pair, ()),
                 ("Full", pair, values), (0, pair, values), (None, TWO), ["full", pair, values], ("full\n", pair,
                                                                                                  values)]
        for value in wrong + ODDITIES:
            self.assertIs(check_answer(V, GOAL, value), False, repr(value))

    def test_wrong_models(self):
        self.assertIs(check_answer(V, NO_FIN, ("empty", TWO)), True)
        for model in [(1, ((0,), (0,)), ((0,), (0,))), (2, ((0,), (1, 1)), ((0, 1), (0, 1))), TWO[:2], list(TWO), None,
                      (2, ((0,), (1, 1)), ((), (0, 1))), (2, ((1,), (1, 1)), ((0,), (0, 1))), ()]:
            self.assertIs(check_answer(V, NO_FIN, ("empty", model)), False, model)
        for goal in [(), (("fin", 0),), (("vec", ("zero",)),), (("vec", 0), ("fin", ("succ", 0)))]:
            self.assertIs(check_answer(V, goal, ("empty", TWO)), False, goal)
        self.assertIs(check_answer(V, (), ("full", (), (FIRST,))), False)
        self.assertIs(check_answer(V, (), ("full", ((0, number(0)),), ())), False)

    def test_holes_are_no_values(self):
        # The index of the second part is told by nothing: a hole would do there, but is no value.
        goal = (("expr", ("nat",)),)
        self.assertIs(check_answer(EXPR, goal, ("full", (), (("apply", ("keep", ("null",)), ("true",)),))), True)
        for part in [(0, "expr"), (1, "expr"), (0,), 0]:
            value = ("full", (), (("apply", ("keep", ("null",)), part),))
            self.assertIs(check_answer(EXPR, goal, value), False)

    def test_values_without_the_index(self):
        # The variable stands for the same term in both types.
        goal = (("vec", 0), ("fin", ("succ", 0)))
        for n in range(4):
            for m in range(4):
                value = ("full", ((0, number(n)),), (vector(m), bounded(2)))
                self.assertIs(check_answer(V, goal, value), n == m and n >= 2)

    def test_changed_answers_by_the_words(self):
        samples = [(V, GOAL, FULL), (V, NO_FIN, ("empty", TWO)), (V, (), ("full", (), ()))]
        for signature in (V, EXPR, PARITY, FORMS, DOWN):
            for seed in range(6):
                goal = random_goal(random.Random(seed), signature, 2, 3)
                samples.append((signature, goal, answer(signature, goal)))
        for signature, goal, found in samples:
            for mutant in structure_mutants(found):
                wanted = is_right_answer(signature, goal, mutant, derivation)
                self.assertIs(check_answer(signature, goal, mutant), wanted, repr(mutant))

    def test_things_that_claim_to_be_equal(self):
        for goal, value in [(GOAL, FULL), (NO_FIN, ("empty", TWO))]:
            for mutant in agreeable_mutants(value):
                self.assertIs(check_answer(V, goal, mutant), False)


class Possible(unittest.TestCase):
    def test_known_ones(self):
        self.assertEqual(possible(V, (("fin", 0), ("vec", 0))), [(("fin", "vec"),)])
        self.assertEqual(possible(V, (("vec", 4),)), [(("fin", "vec"),), (("vec",),)])
        self.assertEqual(possible(V, (("vec", 4), ("fin", 2))),
                         [(("fin", "vec"), ("fin", "vec")), (("fin", "vec"), ("vec",))])
        self.assertEqual(possible(V, (("fin", ("succ", 0)),)), [(("fin", "vec"),), (("vec",),)])
        self.assertEqual(possible(PARITY, (("odd", 1), ("even", 0))), [(("even",), ("odd",))])
        self.assertEqual(possible(PARITY, (("odd", ("succ", 7)),)), [(("even",),)])

    def test_without_variables(self):
        self.assertEqual(possible(V, ()), [()])
        self.assertEqual(possible(V, (("fin", number(2)), ("vec", number(0)))), [()])
        self.assertEqual(possible(V, (("fin", number(2)), ("fin", number(0)))), [])

    def test_by_trying_all_profiles(self):
        for seed in range(120):
            signature = some_signature(seed)
            goal = random_goal(random.Random(seed), signature, 3)
            names = sorted(variables_of([index for family, index in goal]))
            # One term for each profile; terms with the same profiles all solve a goal, or none does.
            terms = {part: least_index(signature, part) for part in profiles(signature)}
            if len(terms) ** len(names) > 300:
                continue
            wanted = []
            for choice in itertools.product(sorted(terms), repeat=len(names)):
                chosen = {name: terms[part] for name, part in zip(names, choice)}
                if all(family in profile(signature, replaced(index, chosen)) for family, index in goal):
                    wanted.append(choice)
            found = possible(signature, goal)
            self.assertTrue(same(found, wanted), (signature, goal, found, wanted))

    def test_what_is_returned_is_new(self):
        possible(V, (("vec", 0),)).clear()
        self.assertEqual(len(possible(V, (("vec", 0),))), 2)

    def test_solutions_have_possible_profiles(self):
        pool = [term for n in range(1, 4) for term in closed_terms(NUMBERS, n)]
        for signature in (V, PARITY, COUNTED):
            known = found_values(signature, [number(n) for n in range(7)])
            for seed in range(30):
                goal = random_goal(random.Random(seed), signature, 3, 3)
                names = sorted(variables_of([index for family, index in goal]))
                listed = possible(signature, goal)
                for terms in instances(("x",) + tuple(names), pool):
                    chosen = dict(zip(names, terms[1:]))
                    if all((family, replaced(index, chosen)) in known for family, index in goal):
                        self.assertIn(tuple(profile(signature, term) for term in terms[1:]), listed)


class DeadMakers(unittest.TestCase):
    def test_known_ones(self):
        self.assertEqual(dead_makers(V), [])
        self.assertEqual(dead_makers(PARITY), ["stuck"])
        self.assertEqual(dead_makers(COUNTED), ["turn"])
        self.assertEqual(dead_makers(EMPTY), [])
        # There is no function from anything to void, but the argument's kind is free.
        self.assertEqual(dead_makers(EXPR), [])
        apart = (NUMBERS, ("f", "g"), (("c", "f", 0, (("g", 0), ("f", 0))), ("a", "f", ("zero",), ()),
                                       ("b", "g", ("succ", 0), (("f", 0),)),
                                       ("d", "f", ("succ", 0), (("f", 0), ("g", 0), ("f", ("succ", ("succ", 1)))))))
        # Values of f stand at zero and of g at one: no variable of c can be both.
        self.assertEqual(dead_makers(apart), ["c", "d"])
        chain = (NUMBERS, ("f", "g", "h"), (("c", "f", 0, (("g", 0),)), ("b", "g", 0, (("h", 0),)),
                                            ("a", "h", 0, (("f", 0),)), ("z", "h", ("zero",), (("g", ("zero",)),))))
        self.assertEqual(dead_makers(chain), ["c", "b", "a", "z"])

    def test_makers_of_small_values_are_alive(self):
        for seed in range(150):
            signature = some_signature(seed)
            dead = dead_makers(signature)
            names = [maker[0] for maker in signature[2]]
            self.assertEqual(dead, [name for name in names if name in dead])
            for family, values in values_up_to(signature, 4).items():
                for value in values[:200]:
                    if value[0] in dead:
                        self.assertFalse(plainly_solves(signature, ((family, 0),), (value,)))

    def test_makers_that_are_not_dead_have_values(self):
        for seed in range(90):
            signature = some_signature(seed)
            dead = dead_makers(signature)
            for name, family, head, arguments in signature[2]:
                found = answer(signature, arguments + ((family, head),))
                if name not in dead:
                    values = answer(signature, arguments)[2]
                    self.assertTrue(plainly_solves(signature, ((family, 0),), ((name,) + values,)))
                else:
                    self.assertEqual(found[0], "empty")


if __name__ == "__main__":
    unittest.main()
