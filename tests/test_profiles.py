"""Profiles and profile papers (points 6.1 and 6.2)."""

import itertools
import unittest

from casefamilies.errors import NoProfile
from casefamilies.profiles import check_profiles, profile, profile_after, profile_paper, profiles
from casefamilies.terms import closed_terms
from casefamilies.values import derivation
from reference import found_values, is_right_paper
from samples import (
    COUNTED, DOWN, EMPTY, EXPR, FORMS, NAMED, NUMBERS, ODDITIES, PARITY, REGISTER, STEPS, V, agreeable_mutants, number,
    random_signature, structure_mutants)

FIRST = ("first",)
LONGER = ("cons", FIRST, (0, "vec"))
PAPER = (("zero", (), ("vec",), (("nil",),)), ("succ", (("vec",),), ("fin", "vec"), (FIRST, LONGER)),
         ("succ", (("fin", "vec"),), ("fin", "vec"), (FIRST, LONGER)))


def few_terms(signature, most):
    return [term for n in range(1, 7) for term in closed_terms(signature[0], n)][:most]


class Profiles(unittest.TestCase):
    def test_known_ones(self):
        self.assertEqual(profile(V, number(0)), ("vec",))
        self.assertEqual(profile(V, number(5)), ("fin", "vec"))
        self.assertEqual(profiles(V), [("fin", "vec"), ("vec",)])
        self.assertEqual(profiles(EMPTY), [()])
        self.assertEqual(profiles(EXPR), [(), ("expr",)])
        self.assertEqual(profiles(PARITY), [("even",), ("odd",)])
        self.assertEqual(profiles(COUNTED), [("great",), ("great", "two"), ("one", "two")])
        self.assertEqual(profile(COUNTED, number(1)), ("great", "two"))
        for n in range(12):
            self.assertEqual(profile(PARITY, number(n)), ("odd",) if n % 2 else ("even",))

    def test_what_stands_above_counts(self):
        # An argument's index may be greater than the head.
        self.assertEqual(profile(DOWN, ("zero",)), ("down",))
        self.assertEqual(profile(DOWN, ("succ", ("zero",))), ())
        self.assertEqual(profile(DOWN, ("stop", ("zero",))), ("down", "mark"))
        self.assertEqual(profile(DOWN, ("succ", ("stop", ("zero",)))), ("down", "mark"))
        above = (NUMBERS, ("f", "g"), (("m", "f", 0, (("g", ("succ", ("succ", 0))),)),
                                       ("n", "g", ("succ", 0), (("f", 1),)),
                                       ("o", "f", ("zero",), ())))
        self.assertEqual(profiles(above), [("f",), ("f", "g")])

    def test_further_variables_need_a_value_somewhere(self):
        nowhere = (NUMBERS, ("f", "g"), (("m", "f", 0, (("g", 1),)), ("n", "g", ("succ", 0), (("g", 0),))))
        self.assertEqual(profiles(nowhere), [()])
        somewhere = (NUMBERS, ("f", "g"), (("m", "f", 0, (("g", 1),)), ("n", "g", ("succ", 0), (("f", 1),)),
                                           ("o", "g", ("succ", 0), ())))
        self.assertEqual(profiles(somewhere), [("f",), ("f", "g")])
        together = (NUMBERS, ("f", "g", "h"), (("m", "f", 0, (("g", 1), ("h", 1))), ("n", "g", ("zero",), ()),
                                               ("o", "h", ("succ", 0), ())))
        self.assertEqual(profiles(together), [("g",), ("h",)])

    def test_all_sixteen(self):
        subsets = [part for n in range(5) for part in itertools.combinations(STEPS, n)]
        self.assertEqual(profiles(REGISTER), sorted(subsets))
        self.assertEqual(profile(REGISTER, ("t", ("s", ("s", ("t", ("z",)))))), ("fa", "fd"))
        self.assertEqual(profile(REGISTER, ("p", ("t", ("z",)), ("z",))), ())
        self.assertEqual(profile(REGISTER, ("p", ("t", ("z",)), ("t", ("t", ("z",))))), ("fd",))

    def test_small_terms(self):
        for signature in NAMED + [random_signature(seed) for seed in range(150)]:
            known = profiles(signature)
            self.assertEqual(known, sorted(set(known)))
            found = found_values(signature, few_terms(signature, 5))
            for term in few_terms(signature, 25):
                families = profile(signature, term)
                self.assertIn(families, known)
                self.assertEqual(list(families), sorted(set(families)))
                for family in signature[1]:
                    if (family, term) in found:
                        self.assertIn(family, families)
                below = [profile(signature, part) for part in term[1:]]
                self.assertEqual(profile_after(signature, term[0], below), families)

    def test_no_profiles(self):
        for parts in [[()], [("fin",)], [("vec", "fin")], [("none",)], [("fin", "vec", "vec")], [("vec\n",)], [None],
                      [["vec"]]]:
            with self.assertRaises(NoProfile, msg=parts):
                profile_after(V, "succ", parts)
        for parts in [[("expr",), ("none",)], [("none",), ("expr",)], [(), ("expr", "expr")]]:
            with self.assertRaises(NoProfile, msg=parts):
                profile_after(EXPR, "arrow", parts)
        self.assertEqual(profile_after(V, "zero", []), ("vec",))
        self.assertEqual(profile_after(EXPR, "arrow", [(), ("expr",)]), ("expr",))
        self.assertEqual(profile_after(EXPR, "arrow", [("expr",), ()]), ())

    def test_arguments_stay_and_what_is_returned_is_new(self):
        parts = [("vec",)]
        profile_after(V, "succ", parts)
        self.assertEqual(parts, [("vec",)])
        profiles(V).clear()
        self.assertEqual(profiles(V), [("fin", "vec"), ("vec",)])


class Papers(unittest.TestCase):
    def test_papers_are_right(self):
        for signature in NAMED + [random_signature(seed) for seed in range(150)]:
            paper = profile_paper(signature)
            self.assertTrue(is_right_paper(signature, paper, derivation), signature)
            self.assertIs(check_profiles(signature, paper), True)
            self.assertEqual(sorted({row[2] for row in paper}), profiles(signature))
            for word, parts, families, templates in paper[:40]:
                self.assertEqual(profile_after(signature, word, list(parts)), families)

    def test_papers_of_others_are_taken(self):
        self.assertIs(check_profiles(V, PAPER), True)
        # The rows may stand in another order, and the templates may be others.
        self.assertIs(check_profiles(V, (PAPER[0], PAPER[1], PAPER[2][:3] + ((("more", (0, "fin")), LONGER),))), True)
        both = profile_paper(EXPR)
        self.assertIs(check_profiles(EXPR, both), True)
        turned = both[:3][::-1] + both[3:]
        self.assertIs(check_profiles(EXPR, turned), is_right_paper(EXPR, turned, derivation))

    def test_wrong_papers(self):
        zero, one, two = PAPER
        wrong = [(), (zero,), (zero, one), (zero, two, one), (one, zero, two), (zero, one, two, two), (zero, one, one),
                 (zero, zero, one, two), [zero, one, two], (zero, one, list(two)), PAPER[:2] + (two[:3],),
                 PAPER + (None,),
                 (("zero", (), (), ()), one, two), (("zero", (), ("fin", "vec"), (FIRST, ("nil",))), two),
                 (zero, ("succ", (("vec",),), ("vec",), (LONGER,))),
                 (zero, one[:2] + (("vec", "fin"), (LONGER, FIRST)), two),
                 (zero, one, two[:3] + ((FIRST,),)), (zero, one, two[:3] + ((LONGER, FIRST),)),
                 (zero, one, two[:3] + ([FIRST, LONGER],)),
                 (zero, one[:3] + ((("more", (0, "fin")), LONGER),), two),
                 (zero, one[:3] + ((FIRST, ("cons", (0, "fin"), (0, "vec"))),), two),
                 (zero, ("succ", [("vec",)]) + one[2:], two), (zero, ("succ", (["vec"],)) + one[2:], two),
                 (zero, ("none",) + one[1:], two), ((0,) + zero[1:], one, two), ((["zero"],) + zero[1:], one, two),
                 (("zero", (), ("vec",), (("nil",), ("nil",))), one, two),
                 (("zero", (("vec",),), ("vec",), (("nil",),)), one, two),
                 (zero, one[:2] + (("fin", "fin", "vec"), (FIRST, FIRST, LONGER)), two), (zero, one, two + ()) + ((),),
                 (zero, one[:2] + (("fin", "vec", "wec"), (FIRST, LONGER, FIRST)), two)]
        for value in wrong + ODDITIES:
            self.assertIs(check_profiles(V, value), False, repr(value))
        self.assertIs(check_profiles(EMPTY, (("zero", (), (), ()),)), True)
        self.assertIs(check_profiles(EMPTY, (("zero", (), (), ()),) * 2), False)
        self.assertIs(check_profiles(EMPTY, ()), False)

    def test_a_paper_may_not_leave_a_family_out(self):
        # Each rule that stands here is right, but the last condition does not hold.
        short = (("zero", (), (), ()), ("succ", ((),), (), ()))
        self.assertIs(check_profiles(V, short), False)
        only = (("zero", (), ("vec",), (("nil",),)), ("succ", (("vec",),), ("vec",), (LONGER,)))
        self.assertIs(check_profiles(V, only), False)

    def test_changed_papers_by_the_words(self):
        for signature in (V, PARITY, DOWN, COUNTED, EXPR):
            paper = profile_paper(signature)
            for mutant in structure_mutants(paper):
                wanted = is_right_paper(signature, mutant, derivation)
                self.assertIs(check_profiles(signature, mutant), wanted, repr(mutant))

    def test_things_that_claim_to_be_equal(self):
        for mutant in agreeable_mutants(PAPER):
            self.assertIs(check_profiles(V, mutant), False)

    def test_every_row_counts(self):
        for signature in (FORMS, EXPR, DOWN):
            paper = profile_paper(signature)
            known = profiles(signature)
            for k, row in enumerate(paper):
                others = [paper[:k] + paper[k + 1:], paper[:k] + (row,) + paper[k:],
                          paper[:k] + paper[k + 1:] + (row, row)]
                others.extend([paper[:j] + (row,) + paper[j:k] + paper[k + 1:] for j in range(k)])
                others.extend([paper[:k] + (row[:2] + (state,) + row[3:],) + paper[k + 1:] for state in known])
                others.extend([paper[:k] + ((word,) + row[1:],) + paper[k + 1:] for word, arity in signature[0]])
                for other in others:
                    wanted = is_right_paper(signature, other, derivation)
                    self.assertIs(check_profiles(signature, other), wanted, repr(other))


if __name__ == "__main__":
    unittest.main()
