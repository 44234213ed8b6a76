"""Values, their indices and their derivations (part 4)."""

import random
import unittest

from casefamilies.errors import Unknown
from casefamilies.terms import closed_terms, is_linear, tidied
from casefamilies.values import (
    check_derivation, depth, derivation, family_of, fault_place, general_index, has_index, is_value, part_at, weight)
from reference import has_index as plainly_has_index
from reference import is_right_derivation, plain_match, values_up_to
from samples import (
    COUNTED, DOWN, EXPR, FORMS, NAMED, NUMBERS, ODDITIES, PARITY, REGISTER, V, agreeable_mutants, bounded, instances,
    number, random_signature, replaced, same, structure_mutants, vector)

ZERO = ("zero",)
FIRST = ("first",)
NIL = ("nil",)
WRONG = ("cons", FIRST, ("cons", bounded(2), NIL))


def places(value):
    """Return all places of a value."""
    below = [(k,) + place for k, part in enumerate(value[1:]) for place in places(part)]
    return [()] + below


def plain_part(value, place):
    return value if not place else plain_part(value[place[0] + 1], place[1:])


class Forms(unittest.TestCase):
    def test_values(self):
        for value in [FIRST, NIL, bounded(5), vector(4), WRONG, ("cons", bounded(3), NIL)]:
            self.assertIs(is_value(V, value), True, value)
        self.assertIs(is_value(V, bounded(99)), True)
        for signature in NAMED:
            for listed in values_up_to(signature, 4).values():
                for value in listed[:60]:
                    self.assertIs(is_value(signature, value), True, value)

    def test_no_values(self):
        wrong = [(), ("first", FIRST), ("more",), ("more", NIL), ("more", "first"), ("more", ["first"]), ["first"],
                 "first",
                 ("none",), ("first\n",), ("fin",), ("zero",), ("cons", FIRST), ("cons", NIL, FIRST),
                 ("cons", FIRST, FIRST),
                 ("cons", FIRST, NIL, NIL), ("cons", (0, "fin"), NIL), (0, "fin"), (0, "vec"), (True, "fin"), (0,),
                 ("more", (0, "fin")), ("more", 0), ("more", True), ("more", None), (FIRST,), ((),), (None,),
                 (["first"],)]
        for value in wrong + [odd for odd in ODDITIES if odd != ("nil",) or type(odd) is not tuple]:
            self.assertIs(is_value(V, value), False, repr(value))
        deep = []
        for _ in range(98):
            deep = ("more", deep)
        self.assertIs(is_value(V, deep), False)

    def test_changed_values(self):
        for value in [vector(2), WRONG, bounded(3)]:
            for mutant in structure_mutants(value):
                known = mutant in values_up_to(V, 7)["vec"] + values_up_to(V, 7)["fin"]
                self.assertIs(is_value(V, mutant), known, repr(mutant))

    def test_things_that_claim_to_be_equal(self):
        for mutant in agreeable_mutants(vector(2)):
            self.assertIs(is_value(V, mutant), False)
        for mutant in agreeable_mutants(derivation(V, vector(2), number(2))):
            self.assertIs(check_derivation(V, vector(2), number(2), mutant), False)

    def test_measures(self):
        for value, family, makers, levels in [(FIRST, "fin", 1, 1), (NIL, "vec", 1, 1), (bounded(4), "fin", 5, 5),
                                              (vector(3), "vec", 7, 4), (WRONG, "vec", 7, 5)]:
            self.assertEqual(family_of(V, value), family)
            self.assertEqual(weight(value), makers)
            self.assertEqual(depth(value), levels)

    def test_parts(self):
        value = vector(3)
        self.assertEqual(part_at(value, ()), value)
        for place in places(value):
            self.assertEqual(part_at(value, place), plain_part(value, place))
        for place in [(2,), (-1,), (0, 0), (1, 1, 1, 0), (1, -1), (1, 2), (0, -1), (10 ** 9,), (-2,), (1, 1, 1, -1),
                      (3,)]:
            with self.assertRaises(Unknown, msg=place):
                part_at(value, place)
        with self.assertRaises(Unknown):
            part_at(FIRST, (0,))


class Indices(unittest.TestCase):
    def test_known_general_indices(self):
        for value, index in [(FIRST, ("succ", 0)), (("more", FIRST), ("succ", ("succ", 0))), (NIL, ZERO),
                             (("cons", ("more", FIRST), NIL), ("succ", ZERO)), (vector(3), number(3)),
                             (WRONG, number(2))]:
            self.assertEqual(general_index(V, value), index)
        self.assertEqual(general_index(PARITY, ("up", ("none",))), number(1))
        self.assertEqual(general_index(EXPR, ("keep", ("null",))), ("arrow", 0, ("nat",)))
        self.assertEqual(general_index(EXPR, ("apply", ("keep", ("null",)), ("true",))), ("nat",))
        self.assertIsNone(general_index(EXPR, ("apply", ("null",), ("true",))))
        self.assertEqual(general_index(DOWN, ("fall", ("again", ("again", ("here",))))), ("stop", 0))
        self.assertEqual(general_index(DOWN, ("again", ("here",))), ("succ", ("stop", 0)))
        self.assertEqual(general_index(COUNTED, ("third", ("low",), ("next", ("start",)))), ("succ", ZERO))

    def test_a_variable_alone_can_be_the_general_index(self):
        free = (NUMBERS, ("any",), (("all", "any", 0, ()), ("both", "any", 0, (("any", 0), ("any", 1)))))
        self.assertEqual(general_index(free, ("all",)), 0)
        self.assertEqual(general_index(free, ("both", ("all",), ("both", ("all",), ("all",)))), 0)
        self.assertIs(has_index(free, ("both", ("all",), ("all",)), number(7)), True)
        found = derivation(free, ("both", ("all",), ("all",)), number(2))
        self.assertIs(is_right_derivation(free, ("both", ("all",), ("all",)), number(2), found), True)

    def test_known_indices(self):
        self.assertIs(has_index(V, bounded(2), number(3)), True)
        self.assertIs(has_index(V, bounded(2), number(9)), True)
        self.assertIs(has_index(V, bounded(2), number(2)), False)
        self.assertIs(has_index(V, vector(2), number(2)), True)
        self.assertIs(has_index(V, vector(2), number(3)), False)
        self.assertIs(has_index(EXPR, ("apply", ("null",), ("true",)), ("nat",)), False)
        identity = ("keep", ("null",))
        self.assertIs(has_index(EXPR, identity, ("arrow", ("void",), ("nat",))), True)
        self.assertIs(has_index(EXPR, identity, ("arrow", ("void",), ("bool",))), False)

    def check(self, signature, value, pool):
        """Compare the general index of a value, and derivations, with what the words say."""
        general = general_index(signature, value)
        if general is not None:
            self.assertEqual(tidied((general,)), (general,))
            self.assertTrue(is_linear(general))
        for index in pool:
            wanted = plainly_has_index(signature, value, index, pool)
            found = derivation(signature, value, index)
            self.assertEqual(has_index(signature, value, index), found is not None)
            self.assertEqual(general is not None and plain_match(general, index), found is not None)
            if wanted:
                self.assertIsNotNone(found)
            if found is not None:
                self.assertTrue(is_right_derivation(signature, value, index, found))
                self.assertIs(check_derivation(signature, value, index, found), True)

    def test_by_the_words(self):
        rng = random.Random(9)
        for signature in [V, EXPR, PARITY, FORMS, DOWN, COUNTED, REGISTER] + [random_signature(k) for k in range(60)]:
            pool = [term for n in range(1, 6) for term in closed_terms(signature[0], n)][:6]
            for listed in values_up_to(signature, 5).values():
                for value in rng.sample(listed, min(len(listed), 12)):
                    self.check(signature, value, pool)

    def test_all_instances_are_indices(self):
        pool = [number(k) for k in range(6)]
        for value in values_up_to(V, 6)["vec"] + values_up_to(V, 4)["fin"]:
            general = general_index(V, value)
            shown = [] if general is None else instances(general, pool)
            self.assertEqual([t for t in pool if plainly_has_index(V, value, t, pool)], [t for t in pool if t in shown])


class Derivations(unittest.TestCase):
    def test_known_one(self):
        value = ("cons", ("more", FIRST), NIL)
        self.assertIsNone(derivation(V, value, number(2)))
        found = derivation(V, ("cons", FIRST, NIL), number(1))
        self.assertEqual(found[0], "cons")
        self.assertEqual(found[1][0], ZERO)
        self.assertEqual(found[2][0][:2], ("first", (found[1][1],)))
        self.assertEqual(found[2][1], ("nil", (), ()))

    def test_several_are_right(self):
        for n in range(4):
            shown = ("cons", (ZERO, number(n)), (("first", (number(n),), ()), ("nil", (), ())))
            self.assertIs(check_derivation(V, ("cons", FIRST, NIL), number(1), shown), True)
        wrong = ("cons", (ZERO, number(2)), (("first", (number(1),), ()), ("nil", (), ())))
        self.assertIs(check_derivation(V, ("cons", FIRST, NIL), number(1), wrong), False)

    def test_wrong_ones(self):
        value = ("cons", ("more", FIRST), NIL)
        for found in [derivation(V, value, number(1))]:
            for mutant in structure_mutants(found):
                wanted = is_right_derivation(V, value, number(1), mutant)
                self.assertIs(check_derivation(V, value, number(1), mutant), wanted, repr(mutant))
            self.assertIs(check_derivation(V, value, number(2), found), False)
            self.assertIs(check_derivation(V, ("cons", FIRST, NIL), number(1), found), False)
            self.assertIs(check_derivation(V, NIL, number(1), found), False)
        for odd in ODDITIES + [("cons", (0, 0), ()), ("nil", (), ()), ["nil", (), ()], ("nil", [], ()),
                               ("nil", (), [])]:
            self.assertIs(check_derivation(V, value, number(1), odd), False, repr(odd))
        self.assertIs(check_derivation(V, NIL, ZERO, ("nil", (), ())), True)
        self.assertIs(check_derivation(V, NIL, ZERO, ["nil", (), ()]), False)
        self.assertIs(check_derivation(V, NIL, ZERO, ("nil", [], ())), False)
        self.assertIs(check_derivation(V, NIL, ZERO, ("nil", (), [])), False)
        self.assertIs(check_derivation(V, NIL, number(1), ("nil", (), ())), False)

    def test_variables_and_other_terms_are_no_indices(self):
        for index in [0, True, "zero", ["zero"], ("succ", 0), ("one",), ("succ", True), None, ("zero", ZERO)]:
            self.assertIs(check_derivation(V, FIRST, number(1), ("first", (index,), ())), False, repr(index))
        self.assertIs(check_derivation(V, FIRST, number(1), ("first", (ZERO,), ())), True)
        self.assertIs(check_derivation(V, FIRST, number(1), ("first", (ZERO, ZERO), ())), False)

    def test_every_item_counts(self):
        for signature, value, index in [(V, vector(2), number(2)),
                                        (EXPR, ("apply", ("keep", ("true",)), ("null",)), ("bool",)),
                                        (DOWN, ("fall", ("again", ("again", ("here",)))), ("stop", ("zero",)))]:
            found = derivation(signature, value, index)
            self.assertTrue(is_right_derivation(signature, value, index, found))
            for mutant in structure_mutants(found):
                wanted = is_right_derivation(signature, value, index, mutant)
                self.assertIs(check_derivation(signature, value, index, mutant), wanted, repr(mutant))
            for other in [ZERO, number(1), ("nat",), ("void",), ("stop", ("zero",))]:
                for mutant in changed_terms(found, other):
                    wanted = is_right_derivation(signature, value, index, mutant)
                    self.assertIs(check_derivation(signature, value, index, mutant), wanted, repr(mutant))


def changed_terms(found, other):
    """Return derivations with one of the indices changed to another term."""
    word, indices, parts = found
    mutants = [(word, indices[:k] + (other,) + indices[k + 1:], parts) for k in range(len(indices))]
    for k, part in enumerate(parts):
        mutants.extend((word, indices, parts[:k] + (below,) + parts[k + 1:]) for below in changed_terms(part, other))
    return [mutant for mutant in mutants if not same(mutant, found)]


class Faults(unittest.TestCase):
    def test_known_ones(self):
        self.assertIsNone(fault_place(V, vector(3)))
        self.assertIsNone(fault_place(V, NIL))
        self.assertIsNone(fault_place(EXPR, ("apply", ("keep", ("null",)), ("true",))))
        bad = ("apply", ("null",), ("true",))
        self.assertEqual(fault_place(EXPR, bad), ())
        self.assertEqual(fault_place(EXPR, ("apply", ("keep", bad), bad)), (0, 0))
        self.assertEqual(fault_place(EXPR, ("apply", ("keep", ("null",)), bad)), (1,))
        self.assertEqual(fault_place(EXPR, ("keep", ("keep", bad))), (0, 0))

    def test_by_the_words(self):
        rng = random.Random(10)
        many = 0
        for signature in [EXPR, FORMS, DOWN, COUNTED, PARITY] + [random_signature(k) for k in range(60)]:
            for listed in values_up_to(signature, 6).values():
                for value in rng.sample(listed, min(len(listed), 30)):
                    shown = {place: general_index(signature, plain_part(value, place)) for place in places(value)}
                    wrong = [place for place in shown if shown[place] is None
                             and not [p for p in shown if p[:-1] == place and p != place and shown[p] is None]]
                    self.assertEqual(fault_place(signature, value), min(wrong, default=None))
                    many += len(wrong)
        self.assertGreater(many, 100)


class GreatOnes(unittest.TestCase):
    def test_values_with_200_makers(self):
        value = ("nil",)
        for k in range(12):
            value = ("cons", bounded(k + 3 if k < 10 else k), value)
        for k in range(40):
            value = ("cons", FIRST, value)
        self.assertGreater(weight(value), 180)
        self.assertIs(is_value(V, value), True)
        index = general_index(V, value)
        self.assertEqual(index, number(52))
        found = derivation(V, value, index)
        self.assertIs(check_derivation(V, value, index, found), True)
        self.assertTrue(is_right_derivation(V, value, index, found))
        self.assertIsNone(fault_place(V, value))

    def test_deep_values(self):
        value = bounded(98)
        self.assertEqual(depth(value), 99)
        self.assertIs(has_index(V, value, number(99)), True)
        self.assertIs(has_index(V, value, number(98)), False)
        found = derivation(V, value, number(99))
        self.assertIs(check_derivation(V, value, number(99), found), True)

    def test_nothing_is_changed(self):
        value = vector(2)
        place = (1, 0)
        self.assertEqual(part_at(value, place), FIRST)
        self.assertEqual((value, place), (vector(2), (1, 0)))
        self.assertEqual(replaced(general_index(V, value), {}), number(2))


if __name__ == "__main__":
    unittest.main()
