"""Steps, runs, and the types of calls (part 13)."""

import random
import unittest

from casefamilies.evaluation import result_index, run, step, typed_call
from casefamilies.programs import is_program
from casefamilies.terms import closed_terms
from casefamilies.values import has_index
from drafts import P
from plain_programs import is_plain_input, plain_first
from plain_runs import next_call, plain_result, plain_run, plain_step, tidy
from reference import values_up_to
from samples import EXPR, ODDITIES, V, agreeable_mutants, bounded, nodes_of, number, same, vector
from systems import (
    ACKERMANN, ENTRY, KNOWN, LISTS, LOOP, SUMS, VOID, ZERO, falling_program, light_value, nat, nats, program_of,
    random_call,
    some_program)

FIRST = ("first",)
NIL = ("nil",)


def expressions_for(program, seed):
    """Return closed expressions over a program."""
    rng = random.Random(seed)
    found = [random_call(rng, program, rng.randint(1, 4)) for _ in range(4)]
    for word, arguments, result, clauses in program[1]:
        values = [light_value(program[0], family, rng.random()) for family, index in arguments]
        if None not in values:
            found.append((word, *values))
    return [expression for expression in found if expression is not None]


def samples():
    programs = KNOWN + [some_program(seed) for seed in range(96)] + [falling_program(seed) for seed in range(60)]
    return [(program, expression) for seed, program in enumerate(programs)
            for expression in expressions_for(program, seed)]


class Steps(unittest.TestCase):
    def test_the_samples_are_programs(self):
        for program in KNOWN + [falling_program(seed) for seed in range(60)]:
            self.assertTrue(is_program(program), program)

    def test_known_ones(self):
        two = vector(2)
        self.assertEqual(step(P, ("place", two)), ("more", ("place", vector(1))))
        self.assertEqual(step(P, ("more", ("place", vector(1)))), ("more", FIRST))
        self.assertEqual(step(SUMS, ("plus", nat(1), nat(2))), ("s", ("plus", ZERO, nat(2))))

    def test_nothing_to_do(self):
        for expression in [FIRST, two_deep(), NIL, vector(3)]:
            self.assertIsNone(step(P, expression))
        self.assertIsNone(step(P, ("place", NIL)))
        self.assertIsNone(step(P, ("more", ("more", ("place", NIL)))))
        self.assertIsNone(step(VOID, ("lost", ("clash", ("up", ("none",)), ("none",)))))

    def test_the_next_call(self):
        # A call in an argument comes first.
        inner = ("plus", nat(1), ZERO)
        self.assertEqual(step(SUMS, ("plus", ZERO, inner)), ("plus", ZERO, ("s", ("plus", ZERO, ZERO))))
        self.assertEqual(step(SUMS, ("plus", inner, ("plus", ZERO, ZERO))),
                         ("plus", ("s", ("plus", ZERO, ZERO)), ("plus", ZERO, ZERO)))
        # Of two that stand side by side, the left one; a deep one on the left comes before one on the right.
        self.assertEqual(step(SUMS, ("plus", ("s", ("s", ("plus", ZERO, ZERO))), inner)),
                         ("plus", ("s", ("s", ZERO)), inner))
        # The next call is stuck, although another one could go on.
        both = ("cons", ("place", NIL), ("cons", ("place", vector(1)), NIL))
        self.assertIsNone(step(P, both))
        self.assertEqual(step(P, ("cons", ("place", vector(1)), ("cons", ("place", NIL), NIL))),
                         ("cons", FIRST, ("cons", ("place", NIL), NIL)))

    def test_the_first_clause_that_matches(self):
        program = program_of(V, ("pick", (("vec", 0), ("fin", 1)), ("fin", 2), (
            (("xs", ("more", "k")), "k"), ((NIL, "k"), "k"), (("xs", "k"), ("more", "k")))))
        self.assertTrue(is_program(program))
        self.assertEqual(step(program, ("pick", NIL, bounded(2))), bounded(1))
        self.assertEqual(step(program, ("pick", NIL, FIRST)), FIRST)
        self.assertEqual(step(program, ("pick", vector(1), FIRST)), ("more", FIRST))

    def test_by_the_words(self):
        tried = {True: 0, False: 0}
        for program, expression in samples():
            wanted = plain_step(program, expression)
            self.assertTrue(same(step(program, expression), wanted), (program, expression))
            tried[wanted is None] += 1
        self.assertGreater(min(tried.values()), 100)


def two_deep():
    return ("cons", ("more", FIRST), NIL)


class Runs(unittest.TestCase):
    def test_values_alone(self):
        for most in (0, 1, 60):
            for value in (FIRST, NIL, vector(4), two_deep()):
                self.assertEqual(run(P, value, most), ("value", value, 0))

    def test_how_many_steps(self):
        call = ("place", vector(3))
        self.assertEqual(run(P, call, 3), ("value", bounded(2), 3))
        self.assertEqual(run(P, call, 60), ("value", bounded(2), 3))
        self.assertEqual(run(P, call, 2), ("more", ("more", ("more", ("place", vector(1))))))
        self.assertEqual(run(P, call, 1), ("more", ("more", ("place", vector(2)))))
        self.assertEqual(run(P, call, 0), ("more", call))

    def test_stuck_ones(self):
        self.assertEqual(run(P, ("place", NIL), 0), ("stuck", "place", (NIL,), 0))
        self.assertEqual(run(P, ("place", NIL), 9), ("stuck", "place", (NIL,), 0))
        self.assertEqual(run(P, ("more", ("place", NIL)), 9), ("stuck", "place", (NIL,), 0))
        # After exactly as many steps as are allowed, it is stuck and not on its way.
        late = ("entry", vector(2), bounded(2))
        self.assertEqual(run(ENTRY, late, 9), ("stuck", "entry", (NIL, FIRST), 2))
        self.assertEqual(run(ENTRY, late, 2), ("stuck", "entry", (NIL, FIRST), 2))
        self.assertEqual(run(ENTRY, late, 1), ("more", ("entry", vector(1), bounded(1))))

    def test_calls_within_calls(self):
        product = ("times", nat(2), ("plus", nat(1), nat(2)))
        self.assertEqual(run(SUMS, product, 60)[:2], ("value", nat(6)))
        self.assertEqual(run(SUMS, ("sum", nats(3, 1, 2)), 60)[:2], ("value", nat(6)))
        self.assertEqual(run(ACKERMANN, ("ack", nat(2), nat(1)), 60)[:2], ("value", nat(5)))
        inner = ("place", ("cons", ("place", vector(2)), ("cons", ("place", vector(1)), NIL)))
        self.assertEqual(run(P, inner, 60), ("value", ("more", FIRST), 5))

    def test_no_end(self):
        self.assertEqual(run(LOOP, ("loop", nat(2)), 60), ("more", ("loop", nat(2))))
        self.assertEqual(run(LOOP, ("s", ("loop", ZERO)), 0), ("more", ("s", ("loop", ZERO))))

    def test_without_clauses(self):
        program = program_of(V, ("lost", (("fin", 0),), ("fin", 0), ()))
        self.assertEqual(run(program, ("lost", FIRST), 0), ("stuck", "lost", (FIRST,), 0))
        self.assertEqual(run(program, ("lost", ("lost", FIRST)), 5), ("stuck", "lost", (FIRST,), 0))
        self.assertEqual(run((V, ()), FIRST, 5), ("value", FIRST, 0))

    def test_by_the_words(self):
        words = {}
        for program, expression in samples():
            for most in (0, 1, 2, 5, 12):
                wanted = plain_run(program, expression, most)
                if nodes_of_expression(wanted) > 2000:
                    break
                self.assertTrue(same(run(program, expression, most), wanted), (program, expression, most))
                words[wanted[0]] = words.get(wanted[0], 0) + 1
        self.assertGreater(min(words.values()), 100)
        self.assertEqual(len(words), 3)

    def test_runs_are_steps(self):
        for program, expression in samples()[::3]:
            for n in range(8):
                found = run(program, expression, n)
                if found[0] != "more":
                    break
                further = step(program, found[1])
                self.assertIsNotNone(further)
                if nodes_of(further) > 2000:
                    break
                again = run(program, further, 0)
                self.assertEqual(run(program, expression, n + 1)[:-1],
                                 again[:-1] if again[0] != "more" else ("more",))
                if again[0] == "more":
                    self.assertEqual(run(program, expression, n + 1), again)
                else:
                    self.assertEqual(run(program, expression, n + 1)[-1], n + 1)

    def test_long_ones_end_soon(self):
        program = program_of(SUMS[0], ("twice", (("nat", ("any",)),), ("nat", ("any",)), (
            ((ZERO,), ZERO), ((("s", "a"),), ("s", ("s", ("twice", "a")))))))
        self.assertEqual(run(program, ("twice", nat(30)), 60), ("value", nat(60), 31))
        wide = ("put", ("plus", nat(20), nat(20)), nats(*[5] * 40))
        self.assertEqual(run(SUMS, wide, 60)[2], 21)


def nodes_of_expression(found):
    return sum(nodes_of(part) for part in found[1:] if type(part) is tuple and part)


class TypedCalls(unittest.TestCase):
    def test_known_ones(self):
        self.assertIs(typed_call(P, "place", (vector(1),)), True)
        self.assertIs(typed_call(P, "place", (NIL,)), False)
        self.assertIs(typed_call(P, "place", (("cons", bounded(3), NIL),)), True)
        self.assertIs(typed_call(P, "place", (("cons", bounded(3), ("cons", ("more", NIL), NIL)),)), False)
        self.assertIs(typed_call(ENTRY, "entry", (vector(2), bounded(1))), True)
        self.assertIs(typed_call(ENTRY, "entry", (vector(2), bounded(2))), False)
        self.assertIs(typed_call(ENTRY, "entry", (NIL, FIRST)), False)
        apply = program_of(EXPR, ("use", (("expr", ("arrow", 0, 1)), ("expr", 0)), ("expr", 1), ()))
        keep = ("keep", ("null",))
        self.assertIs(typed_call(apply, "use", (keep, ("true",))), True)
        self.assertIs(typed_call(apply, "use", (("keep", keep), keep)), True)
        self.assertIs(typed_call(apply, "use", (("null",), keep)), False)

    def test_by_the_words(self):
        tried = {True: 0, False: 0}
        for seed in range(90):
            program = some_program(seed)
            rng = random.Random(seed)
            for function in program[1]:
                for _ in range(12):
                    values = [light_value(program[0], family, rng.random(), 3) for family, index in function[1]]
                    if None in values:
                        continue
                    wanted = is_plain_input(program, function, tuple(values))
                    self.assertIs(typed_call(program, function[0], tuple(values)), wanted)
                    tried[wanted] += 1
        self.assertGreater(min(tried.values()), 200)


class ResultIndices(unittest.TestCase):
    def test_known_ones(self):
        self.assertEqual(result_index(P, "place", (vector(1),)), number(1))
        self.assertEqual(result_index(P, "place", (vector(3),)), number(3))
        # The index of the result has nothing to do with those of the arguments.
        self.assertEqual(result_index(ENTRY, "entry", (vector(2), FIRST)), 0)
        same_one = program_of(V, ("same", (("fin", 0), ("fin", 1)), ("fin", 1), ()))
        self.assertEqual(result_index(same_one, "same", (bounded(4), bounded(2))), ("succ", ("succ", ("succ", 0))))
        pair = program_of(EXPR, ("two", (("expr", 0), ("expr", 1)), ("expr", ("arrow", 2, ("arrow", 1, 0))), ()))
        self.assertEqual(result_index(pair, "two", (("keep", ("null",)), ("true",))),
                         ("arrow", 0, ("arrow", ("bool",), ("arrow", 1, ("nat",)))))

    def test_further_variables_are_kept_apart(self):
        # The variable of the result is not one of those of the indices of the values.
        program = program_of(V, ("free", (("fin", 0),), ("fin", 1), ()))
        for n in range(4):
            self.assertEqual(result_index(program, "free", (bounded(n),)), 0)
        both = program_of(EXPR, ("free", (("expr", 0),), ("expr", ("arrow", 1, 0)), ()))
        self.assertEqual(result_index(both, "free", (("keep", ("null",)),)),
                         ("arrow", 0, ("arrow", 1, ("nat",))))

    def test_by_the_words(self):
        tried = 0
        for seed in range(120):
            program = some_program(seed)
            rng = random.Random(seed)
            for function in program[1]:
                for _ in range(10):
                    values = tuple(light_value(program[0], family, rng.random(), 4) for family, index in function[1])
                    if None not in values and typed_call(program, function[0], values):
                        wanted = tidy(plain_result(program, function[0], values))
                        self.assertTrue(same(result_index(program, function[0], values), wanted))
                        tried += 1
        self.assertGreater(tried, 400)

    def test_instances_are_indices_of_results(self):
        # With right clauses, what comes out has each closed instance as an index.
        for program, word, most in [(P, "place", 7), (LISTS, "entry", 6), (LISTS, "without", 8), (SUMS, "sum", 5)]:
            function = [function for function in program[1] if function[0] == word][0]
            pools = values_up_to(program[0], most if len(function[1]) == 1 else most // 2)
            for values in [(a,) for a in pools[function[1][0][0]]] if len(function[1]) == 1 else [
                    (a, b) for a in pools[function[1][0][0]] for b in pools[function[1][1][0]]]:
                if typed_call(program, word, values):
                    found = run(program, (word, *values), 60)
                    self.assertEqual(found[0], "value")
                    index = result_index(program, word, values)
                    for term in [term for n in range(1, 7) for term in closed_terms(program[0][0], n)]:
                        if tidy(index) == index and instance_of(term, index):
                            self.assertTrue(has_index(program[0], found[1], term), (values, term))


def instance_of(term, pattern):
    if type(pattern) is int:
        return True
    return term[0] == pattern[0] and all(instance_of(a, b) for a, b in zip(term[1:], pattern[1:]))


class Inputs(unittest.TestCase):
    def test_first_clauses_take_what_runs(self):
        for program, expression in samples()[::5]:
            place = next_call(program, expression)
            if place == ():
                function = [function for function in program[1] if function[0] == expression[0]][0]
                wanted = plain_first(function, expression[1:]) is None
                self.assertIs(step(program, expression) is None, wanted)

    def test_values_of_no_form(self):
        for value in ODDITIES:
            self.assertIs(typed_call(P, "place", value if type(value) is tuple else (value,)), False)
        for mutant in agreeable_mutants((vector(1),)):
            self.assertIs(typed_call(P, "place", mutant), False)


if __name__ == "__main__":
    unittest.main()
