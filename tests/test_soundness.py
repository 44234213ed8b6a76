"""Sound programs, and what their calls give (point 14.4)."""

import itertools
import unittest

from casefamilies.bodies import faults
from casefamilies.covers import cover_paper, is_covered
from casefamilies.descent import all_fall, calls_of, check_descent, descent_paper
from casefamilies.evaluation import result_index, run, typed_call
from casefamilies.programs import is_program
from casefamilies.soundness import is_sound
from casefamilies.splits import check_cover
from casefamilies.terms import closed_terms
from casefamilies.unify import match
from casefamilies.values import family_of, has_index
from drafts import P
from plain_programs import has_plain_body, is_right_cover, wanted_index
from plain_runs import is_right_descent
from reference import values_up_to
from samples import EMPTY, V
from systems import (
    ACKERMANN, CLOSED, ENTRY, FAULTY, GROWS, KNOWN, LISTS, LOOP, NAT, PLAIN, SPINS, STEP, SUMS, TOGETHER, TURNS, VOID,
    ZERO, falling_program, program_of, some_program, split_program)

FIRST = ("first",)


def is_plainly_sound(program):
    """Return True if a program is sound, where each paper is tested by the words of the document."""
    for word, arguments, result, clauses in program[1]:
        for k in range(len(clauses)):
            if wanted_index(program, word, k) is None or not has_plain_body(program, word, k):
                return False
        paper = cover_paper(program, word)
        assert is_right_cover(program, word, paper)
        if paper[0] == "missing":
            return False
    paper = descent_paper(program)
    assert is_right_descent(program, paper)
    return paper[0] == "falls"


def sound_programs():
    """Return sound programs, of which some have calls."""
    drawn = [some_program(seed) for seed in range(240)] + [falling_program(seed) for seed in range(60)]
    drawn += [split_program(seed) for seed in range(240)]
    return KNOWN + [program for program in drawn if is_sound(program)]


class Soundness(unittest.TestCase):
    def test_known_ones(self):
        for program in [P, SUMS, LISTS, TURNS, TOGETHER, ACKERMANN, VOID, (V, ()), (EMPTY, ())]:
            self.assertIs(is_sound(program), True, program)
        for program in [ENTRY, SPINS, LOOP, GROWS, CLOSED, FAULTY, STEP]:
            self.assertIs(is_sound(program), False, program)

    def test_each_reason_alone(self):
        # The clause is wrong, and all else holds.
        self.assertEqual((len(faults(ENTRY)), is_covered(ENTRY, "entry"), all_fall(ENTRY)), (1, True, True))
        # An input is missed.
        self.assertEqual((faults(CLOSED), is_covered(CLOSED, "shut"), all_fall(CLOSED)), ([], False, True))
        # Nothing falls.
        self.assertEqual((faults(LOOP), is_covered(LOOP, "loop"), all_fall(LOOP)), ([], True, False))
        # The patterns of a clause do not fit, which does no harm to the inputs.
        nil = program_of(V, ("f", (("vec", ("succ", 0)),), ("fin", ("succ", 0)), (((("nil",),), FIRST),
                                                                              (("xs",), FIRST))))
        self.assertEqual(faults(nil), [("f", 0, "patterns")])
        self.assertIs(is_sound(nil), False)
        self.assertIs(is_sound(program_of(V, ("f", nil[1][0][1], nil[1][0][2], nil[1][0][3][1:]))), True)

    def test_one_function_of_several(self):
        good, bad = SUMS[1], ("loop", (NAT,), NAT, ((("a",), ("loop", "a")),))
        self.assertIs(is_sound((PLAIN, good + (bad,))), False)
        self.assertIs(is_sound((PLAIN, (bad,) + good)), False)
        lost = ("lost", (NAT,), NAT, ())
        self.assertIs(is_sound((PLAIN, good + (lost,))), False)
        wrong = ("wrong", (("fin", 0),), ("fin", ("up", 0)), ((("a",), "a"),))
        self.assertIs(is_sound((PLAIN, good + (wrong,))), False)
        self.assertIs(is_sound((PLAIN, good + (("lost", (("fin", ("any",)),), NAT, ()),))), True)

    def test_calls_of_functions_that_never_end_may_be_in_useless_clauses(self):
        program = program_of(PLAIN, ("f", (NAT,), NAT, ((("a",), ZERO), (("b",), ("f", "b")))))
        self.assertIs(is_sound(program), False)

    def test_by_the_words(self):
        found = {True: 0, False: 0}
        for program in KNOWN + [some_program(seed) for seed in range(150)] + [split_program(n) for n in range(60)]:
            wanted = is_plainly_sound(program)
            self.assertIs(is_sound(program), wanted, program)
            found[wanted] += 1
        self.assertGreater(min(found.values()), 10)

    def test_papers_tell_the_same(self):
        for program in sound_programs():
            if is_sound(program):
                self.assertEqual(faults(program), [])
                self.assertEqual(descent_paper(program)[0], "falls")
                self.assertIs(check_descent(program, descent_paper(program)), True)
                for function in program[1]:
                    self.assertIs(is_covered(program, function[0]), True)
                    paper = cover_paper(program, function[0])
                    self.assertEqual(paper[0], "covered")
                    self.assertIs(check_cover(program, function[0], paper), True)

    def test_calls_give_values_of_the_told_type(self):
        tried, steps = 0, 0
        for program in sound_programs():
            if not is_sound(program):
                continue
            self.assertTrue(is_program(program))
            signature = program[0]
            pools = values_up_to(signature, 4 if calls_of(program) else 3)
            for word, arguments, result, clauses in program[1]:
                rows = list(itertools.product(*[pools[family][:12] for family, index in arguments]))
                rows = [values for values in rows if typed_call(program, word, values)][:40]
                for values in rows:
                    found = run(program, (word, *values), 60)
                    if found[0] == "more":
                        # Some sums take more steps than these: none is stuck on its way.
                        continue
                    self.assertEqual(found[0], "value", (program, word, values))
                    self.assertEqual(family_of(signature, found[1]), result[0])
                    index = result_index(program, word, values)
                    for term in [term for n in range(1, 5) for term in closed_terms(signature[0], n)[:30]]:
                        if match(index, term) is not None:
                            self.assertIs(has_index(signature, found[1], term), True, (program, word, values, term))
                    tried += 1
                    steps += found[2]
        self.assertGreater(tried, 300)
        self.assertGreater(steps, 300)


if __name__ == "__main__":
    unittest.main()
