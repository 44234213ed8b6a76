"""Templates and rules (part 5)."""

import unittest

from casefamilies.rules import check_rule, filled, is_complete, needs, rules, value_at
from casefamilies.profiles import profile
from casefamilies.terms import closed_terms
from casefamilies.values import derivation, family_of, has_index, is_value, weight
from reference import found_values, is_right_derivation, is_right_rule, plain_needs
from samples import (
    COUNTED, DOWN, EMPTY, EXPR, FORMS, NAMED, NUMBERS, ODDITIES, PARITY, REGISTER, V, agreeable_mutants, bounded,
    number, random_signature, structure_mutants, vector)

FIRST = ("first",)
LONGER = ("vec", "succ", ("cons", FIRST, (0, "vec")))


def few_terms(signature, most):
    """Return small closed terms of a signature, in order."""
    return [term for n in range(1, 7) for term in closed_terms(signature[0], n)][:most]


class Templates(unittest.TestCase):
    def test_filled(self):
        template = ("cons", FIRST, (0, "vec"))
        self.assertEqual(filled(template, {(0, "vec"): ("nil",)}), vector(1))
        self.assertEqual(filled(template, {}), template)
        self.assertEqual(filled(template, {(1, "vec"): ("nil",), (0, "fin"): FIRST}), template)
        self.assertEqual(filled((0, "vec"), {(0, "vec"): template}), template)
        self.assertEqual(filled((0, "vec"), {}), (0, "vec"))
        self.assertEqual(filled(template, {(0, "vec"): template}), ("cons", FIRST, template))
        self.assertEqual(filled(("cons", (1, "fin"), (0, "vec")), {(1, "fin"): FIRST, (0, "vec"): (1, "fin")}),
                         ("cons", FIRST, (1, "fin")))
        self.assertEqual(filled(("nil",), {(0, "vec"): FIRST}), ("nil",))

    def test_every_hole_is_filled(self):
        template = ("apply", ("keep", (0, "expr")), ("keep", ("keep", (0, "expr"))))
        self.assertEqual(filled(template, {(0, "expr"): ("null",)}),
                         ("apply", ("keep", ("null",)), ("keep", ("keep", ("null",)))))
        parts = {(0, "expr"): ("null",)}
        filled(template, parts)
        self.assertEqual(parts, {(0, "expr"): ("null",)})


class Checks(unittest.TestCase):
    def test_right_rules(self):
        for rule in [LONGER, ("vec", "zero", ("nil",)), ("fin", "succ", FIRST), ("fin", "succ", ("more", (0, "fin"))),
                     ("vec", "succ", ("cons", bounded(3), (0, "vec"))), ]:
            self.assertIs(check_rule(V, rule), True, rule)
        for signature, rule in [(EXPR, ("expr", "arrow", ("keep", (1, "expr")))), (EXPR, ("expr", "nat", ("null",))),
                                (EXPR, ("expr", "arrow", ("apply", ("keep", ("keep", (1, "expr"))), ("true",)))),
                                (EXPR, ("expr", "bool", ("apply", ("keep", ("true",)), ("keep", ("null",))))),
                                (DOWN, ("mark", "stop", ("here",))), (DOWN, ("mark", "succ", ("again", (0, "mark")))),
                                (DOWN, ("down", "succ", ("fall", ("again", ("again", ("again", (0, "mark"))))))),
                                (FORMS, ("right", "node", ("start", (0, "left"))))]:
            self.assertIs(check_rule(signature, rule), True, rule)

    def test_wrong_rules(self):
        template = LONGER[2]
        wrong = [("vec", "zero", template), ("fin", "succ", template), ("vec", "succ", ("cons", FIRST, (1, "vec"))),
                 ("vec", "succ", ("cons", FIRST, (-1, "vec"))), ("vec", "succ", ("cons", FIRST, (False, "vec"))),
                 ("vec", "succ", ("cons", (0, "vec"), (0, "vec"))), ("vec", "succ", ("cons", (0, "fin"), (0, "vec"))),
                 ("vec", "succ", (0, "vec")), ("fin", "succ", (0, "fin")), ("vec", "succ", ("nil",)),
                 ("vec", "zero", (0, "vec")),
                 ("vec", "succ", vector(1)), ("vec", "succ", ("cons", FIRST, ("cons", FIRST, (0, "vec")))),
                 ("vec", "succ", ["cons", FIRST, (0, "vec")]), ["vec", "succ", template], ("vec", "succ"),
                 ("vec", "succ", template, ()), ("none", "succ", template), ("vec", "none", template),
                 ("vec", 0, template),
                 (0, "succ", template), (["vec"], "succ", template), ("vec", ["succ"], template), ("vec", "succ", None),
                 ("vec", "succ", ()), ("vec", "succ", ("cons", FIRST)), ("vec", "succ", ("cons", FIRST, (0,))),
                 ("vec", "succ", ("cons", FIRST, (0, "vec", 0))), ("vec", "succ", ("cons", FIRST, [0, "vec"])),
                 ("vec", "succ", ("cons", FIRST, (0, "vec\n"))), ("vec", "succ", ("cons", FIRST, (0, ["vec"]))),
                 ("vec", "succ\n", template), ("vec", "succ", ("cons", FIRST, (0.0, "vec"))),
                 ("vec", "succ", ("cons", FIRST, ("0",)))]
        for rule in wrong + ODDITIES:
            self.assertIs(check_rule(V, rule), False, repr(rule))
        for signature, rule in [(EXPR, ("expr", "arrow", ("keep", (0, "expr")))),
                                (EXPR, ("expr", "nat", ("apply", ("keep", ("true",)), ("null",)))),
                                (EXPR, ("expr", "arrow", ("apply", (0, "expr"), (1, "expr")))),
                                (FORMS, ("left", "node", ("onleft", (1, "both"), (0, "both")))),
                                (DOWN, ("down", "succ", ("fall", ("again", ("again", (0, "mark"))))))]:
            self.assertIs(check_rule(signature, rule), False, rule)

    def test_things_that_claim_to_be_equal(self):
        for mutant in agreeable_mutants(LONGER):
            self.assertIs(check_rule(V, mutant), False)

    def test_a_hole_with_one_index_only(self):
        # The hole would have to have two indices at once.
        twice = (NUMBERS, ("a",), (("m", "a", ("succ", 0), (("a", 0), ("a", ("succ", 0)))),))
        self.assertIs(check_rule(twice, ("a", "succ", ("m", (0, "a"), (0, "a")))), False)
        self.assertIs(check_rule(twice, ("a", "succ", ("m", (0, "a"), ("m", (0, "a"), (0, "a"))))), False)
        free = (NUMBERS, ("a",), (("m", "a", ("succ", 0), (("a", 1), ("a", 1))),))
        self.assertIs(check_rule(free, ("a", "succ", ("m", (0, "a"), (0, "a")))), True)

    def test_changed_rules_by_the_words(self):
        for signature in (V, EXPR, PARITY, FORMS, DOWN, COUNTED):
            listed = rules(signature) + ([LONGER] if signature == V else [])
            for rule in listed:
                mutants = structure_mutants(rule)
                mutants.extend((family, rule[1], rule[2]) for family in signature[1])
                mutants.extend((rule[0], pair[0], rule[2]) for pair in signature[0])
                mutants.extend((rule[0], rule[1], other[2]) for other in listed)
                for mutant in mutants:
                    wanted = is_right_rule(signature, mutant, derivation)
                    self.assertIs(check_rule(signature, mutant), wanted, repr(mutant))

    def test_needs(self):
        self.assertEqual(needs(V, LONGER), (("vec",),))
        self.assertEqual(needs(V, ("vec", "zero", ("nil",))), ())
        self.assertEqual(needs(V, ("fin", "succ", FIRST)), ((),))
        self.assertEqual(needs(EXPR, ("expr", "arrow", ("keep", (1, "expr")))), ((), ("expr",)))
        several = (NUMBERS, ("b", "a"), (("m", "a", ("succ", 0), (("b", 0), ("a", 0), ("b", 0))),))
        self.assertEqual(needs(several, ("a", "succ", ("m", (0, "b"), (0, "a"), (0, "b")))), (("a", "b"),))


class Lists(unittest.TestCase):
    def check_list(self, signature):
        listed = rules(signature)
        self.assertIs(type(listed), list)
        for rule in listed:
            self.assertTrue(is_right_rule(signature, rule, derivation), rule)
            self.assertIs(check_rule(signature, rule), True)
            self.assertEqual(needs(signature, rule), plain_needs(signature, rule))
        self.assertIs(is_complete(signature, listed), True)
        terms = few_terms(signature, 60)
        self.assertTrue(self.is_enough(signature, listed, terms))
        for k in range(len(listed)):
            fewer = listed[:k] + listed[k + 1:]
            if not self.is_enough(signature, fewer, terms):
                self.assertIs(is_complete(signature, fewer), False)

    def is_enough(self, signature, listed, terms):
        """Return True if rules are complete, as far as some terms show, by the words of point 5.3."""
        shown = {term: profile(signature, term) for term in terms}
        for term, families in shown.items():
            below = [profile(signature, part) for part in term[1:]]
            for family in families:
                asked = [plain_needs(signature, rule) for rule in listed if rule[:2] == (family, term[0])]
                if not any(all(set(lesser) <= set(part) for lesser, part in zip(row, below)) for row in asked):
                    return False
        return True

    def test_named_signatures(self):
        for signature in NAMED:
            self.check_list(signature)

    def test_random_signatures(self):
        for seed in range(120):
            self.check_list(random_signature(seed))

    def test_known_lists(self):
        right = [LONGER, ("vec", "zero", ("nil",)), ("fin", "succ", FIRST)]
        self.assertIs(is_complete(V, right), True)
        self.assertIs(is_complete(V, right[::-1] + right), True)
        for k in range(3):
            self.assertIs(is_complete(V, right[:k] + right[k + 1:]), False)
        self.assertIs(is_complete(V, []), False)
        # Without the rule for first there is no value of fin at succ(zero).
        self.assertIs(is_complete(V, right[:2] + [("fin", "succ", ("more", (0, "fin")))]), False)
        self.assertIs(is_complete(EMPTY, []), True)
        self.assertEqual(rules(EMPTY), [])

    def test_what_is_returned_is_new(self):
        found = rules(V)
        found.clear()
        self.assertIs(is_complete(V, rules(V)), True)
        listed = rules(V)
        is_complete(V, listed)
        self.assertEqual(listed, rules(V))


class ValuesAt(unittest.TestCase):
    def check_value(self, signature, family, index):
        value = value_at(signature, family, index)
        if value is not None:
            self.assertIs(is_value(signature, value), True)
            self.assertEqual(family_of(signature, value), family)
            self.assertIs(has_index(signature, value, index), True)
            found = derivation(signature, value, index)
            self.assertTrue(is_right_derivation(signature, value, index, found))
        return value

    def test_known_ones(self):
        self.assertIsNone(value_at(V, "fin", ("zero",)))
        self.assertEqual(value_at(V, "vec", ("zero",)), ("nil",))
        for n in range(1, 8):
            self.assertIsNotNone(self.check_value(V, "fin", number(n)))
            self.assertIsNotNone(self.check_value(V, "vec", number(n)))
            self.assertEqual(self.check_value(PARITY, "odd", number(n)) is None, n % 2 == 0)
            self.assertEqual(self.check_value(PARITY, "even", number(n)) is None, n % 2 == 1)
            self.assertIsNone(value_at(PARITY, "never", number(n)))
        self.assertIsNone(value_at(EXPR, "expr", ("void",)))
        self.assertIsNone(value_at(EXPR, "expr", ("arrow", ("nat",), ("void",))))
        self.assertIsNotNone(self.check_value(EXPR, "expr", ("arrow", ("void",), ("nat",))))

    def test_small_terms(self):
        for signature in NAMED + [random_signature(seed) for seed in range(100)]:
            pool = few_terms(signature, 5)
            found = found_values(signature, pool)
            for term in few_terms(signature, 14):
                for family in signature[1]:
                    value = self.check_value(signature, family, term)
                    self.assertEqual(value is not None, family in profile(signature, term))
                    if (family, term) in found:
                        self.assertIsNotNone(value)

    def test_small_values_are_found_where_there_are_some(self):
        # The first way to a value of f that can be tried has more than 1000 makers, the last one 3.
        dear = ("dear", "f", ("zero",), (("g", number(5)),) * 3)
        signature = (NUMBERS, ("f", "g", "h", "k"), (
            dear, ("cheap", "f", ("zero",), (("h", ("zero",)),)), ("ground", "g", ("zero",), ()),
            ("triple", "g", ("succ", 0), (("g", 0),) * 3), ("step", "h", ("zero",), (("k", ("zero",)),)),
            ("base", "k", ("zero",), ())))
        self.assertEqual(self.check_value(signature, "f", ("zero",)), ("cheap", ("step", ("base",))))
        for family, word, template in rules(signature):
            self.assertLess(weight(filled(template, {(0, "g"): ("ground",)})), 5)
        without = (signature[0], signature[1], signature[2][:1] + signature[2][2:])
        self.assertEqual(weight(self.check_value(without, "f", ("zero",))), 1093)

    def test_great_terms(self):
        self.assertIsNotNone(self.check_value(V, "vec", number(90)))
        term = ("nat",)
        for _ in range(80):
            term = ("arrow", ("bool",), term)
        self.assertIsNotNone(self.check_value(EXPR, "expr", term))
        self.assertIsNotNone(self.check_value(REGISTER, "fd", ("t", ("s", ("s", ("t", ("z",)))))) is None)


if __name__ == "__main__":
    unittest.main()
