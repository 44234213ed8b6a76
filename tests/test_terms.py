"""Words, constructors and terms (part 1)."""

import itertools
import random
import unittest

from casefamilies.errors import BadText
from casefamilies.terms import (
    closed_terms, composed, count_closed_terms, height, is_closed_term, is_constructors, is_linear, is_term,
    is_word, read_term, shifted, size, substituted, tidied, variables, write_term)
from samples import NUMBERS, ODDITIES, agreeable_mutants, number, random_term

PAIRS = (("zero", 0), ("succ", 1), ("pair", 2))
WORDY = (("x", 0), ("xx", 1), ("a", 0), ("ab", 0), ("f", 2))


class Words(unittest.TestCase):
    def test_words(self):
        for word in ["a", "z", "zero", "abcdefghijkl", "x"]:
            self.assertIs(is_word(word), True, word)

    def test_no_words(self):
        wrong = ["", "abcdefghijklm", "A", "aB", "a1", "a_b", "a b", " a", "a ", "a\n", "\na", "`", "{", "\u00e9",
                 "\u00df", "\u0430", b"a", ["a"], ("a",), None, True, 0, 1.0, {"a": 1}, object()]
        for value in wrong:
            self.assertIs(is_word(value), False, repr(value))

    def test_constructors(self):
        right = [NUMBERS, PAIRS, (("a", 0),), (("a", 2), ("b", 2), ("c", 1), ("d", 1), ("e", 0)), WORDY]
        for value in right:
            self.assertIs(is_constructors(value), True, value)

    def test_no_constructors(self):
        wrong = [(), (("a", 1),), (("a", 1), ("b", 2)), (("a", 0), ("a", 1)), (("a", 0), ("a", 0)),
                 (("a", 3), ("b", 0)),
                 (("a", -1), ("b", 0)), (("a", False),), (("a", 0), ("b", True)), (("a", 0.0),), (["a", 0],),
                 [("a", 0)], (("a", 0), "b"), (("a", 0, 0),), (("a",),), (("a\n", 0),), (("A", 0),), ((["a"], 0),),
                 (("a", "0"),), (("a", None),), (("abcdefghijklm", 0),), tuple((w, 0) for w in "abcdef"), ("a", 0)]
        for value in wrong + [odd for odd in ODDITIES if odd != (("a", 0),)]:
            self.assertIs(is_constructors(value), False, repr(value))


class Forms(unittest.TestCase):
    def test_terms(self):
        for value in [0, 5, 10 ** 30, ("zero",), ("succ", 3), ("pair", 0, 0), ("pair", ("succ", ("zero",)), 7)]:
            self.assertIs(is_term(PAIRS, value), True, value)
        for value in [("zero",), ("succ", ("zero",)), ("pair", ("zero",), ("succ", ("zero",)))]:
            self.assertIs(is_closed_term(PAIRS, value), True, value)
        self.assertIs(is_term(PAIRS, number(99)), True)
        self.assertIs(is_closed_term(PAIRS, number(99)), True)

    def test_terms_with_variables_are_not_closed(self):
        for value in [0, ("succ", 0), ("pair", ("zero",), ("succ", 1))]:
            self.assertIs(is_closed_term(PAIRS, value), False, value)

    def test_no_terms(self):
        wrong = [-1, True, False, 0.0, "zero", ["zero"], ("zero", 0), ("succ",), ("succ", 0, 0), ("succ", -1),
                 ("succ", True), ("succ", ["zero"]), ("pair", 0), ("one",), ("zero\n",), (), ((),), ("succ", ()),
                 ("succ", None), (b"zero",), (["zero"],), (0,), (None,), ("succ", "zero"), ("pair", 0, "x"),
                 ("succ", ("succ", ("succ", False)))]
        for value in wrong:
            self.assertIs(is_term(PAIRS, value), False, repr(value))
            self.assertIs(is_closed_term(PAIRS, value), False, repr(value))
        for value in ODDITIES:
            if not (type(value) is int and value >= 0) and value not in [("zero",), ("succ", 0)]:
                self.assertIs(is_term(PAIRS, value), False, repr(value))
            self.assertIs(is_closed_term(PAIRS, value), value == ("zero",), repr(value))

    def test_things_that_claim_to_be_equal(self):
        for mutant in agreeable_mutants(PAIRS):
            self.assertIs(is_constructors(mutant), False)
        for mutant in agreeable_mutants(("pair", ("succ", ("zero",)), ("zero",))):
            self.assertIs(is_term(PAIRS, mutant), False)
            self.assertIs(is_closed_term(PAIRS, mutant), False)

    def test_deep_values(self):
        value = 0
        for _ in range(99):
            value = ("succ", value)
        self.assertIs(is_term(PAIRS, value), True)
        value = []
        for _ in range(99):
            value = ("succ", value)
        self.assertIs(is_term(PAIRS, value), False)


class Measures(unittest.TestCase):
    def test_size_and_height(self):
        for term, nodes, levels in [(4, 1, 1), (("zero",), 1, 1), (("succ", 0), 2, 2), (number(9), 10, 10),
                                    (("pair", ("succ", 0), ("succ", 0)), 5, 3),
                                    (("pair", 0, ("succ", ("zero",))), 4, 3)]:
            self.assertEqual(size(term), nodes)
            self.assertEqual(height(term), levels)

    def test_variables(self):
        self.assertEqual(variables(7), [7])
        self.assertEqual(variables(number(3)), [])
        self.assertEqual(variables(("pair", ("pair", 5, 2), ("pair", 2, ("succ", 9)))), [5, 2, 9])
        self.assertEqual(variables(("pair", ("succ", 1), 0)), [1, 0])

    def test_linear(self):
        self.assertIs(is_linear(("pair", 0, 1)), True)
        self.assertIs(is_linear(number(2)), True)
        self.assertIs(is_linear(3), True)
        self.assertIs(is_linear(("pair", 4, ("succ", 4))), False)
        self.assertIs(is_linear(("pair", 0, 0)), False)

    def test_what_is_returned_is_new(self):
        term = ("pair", 3, 1)
        variables(term).append(8)
        self.assertEqual(variables(term), [3, 1])


class Substitutions(unittest.TestCase):
    def test_all_variables_at_the_same_time(self):
        self.assertEqual(substituted(("pair", 0, 1), {0: 1, 1: 0}), ("pair", 1, 0))
        self.assertEqual(substituted(("pair", 0, 2), {0: ("succ", 0), 1: 5}), ("pair", ("succ", 0), 2))
        self.assertEqual(substituted(3, {3: ("zero",)}), ("zero",))
        self.assertEqual(substituted(3, {}), 3)
        self.assertEqual(substituted(("zero",), {0: 1}), ("zero",))

    def test_composed(self):
        self.assertEqual(composed({0: 1}, {1: ("zero",)}), {0: ("zero",), 1: ("zero",)})
        self.assertEqual(composed({0: 1}, {1: 0}), {1: 0})
        self.assertEqual(composed({0: ("succ", 1)}, {0: 5, 1: 0}), {0: ("succ", 0), 1: 0})
        self.assertEqual(composed({2: 2}, {3: 3}), {})
        self.assertEqual(composed({}, {}), {})
        self.assertEqual(composed({0: 0}, {0: 7}), {0: 7})

    def test_composed_does_the_same_as_both(self):
        rng = random.Random(1)
        for _ in range(300):
            first = {v: random_term(rng, PAIRS, 4, 4) for v in rng.sample(range(4), rng.randint(0, 4))}
            second = {v: random_term(rng, PAIRS, 4, 4) for v in rng.sample(range(4), rng.randint(0, 4))}
            kept = (dict(first), dict(second))
            both = composed(first, second)
            self.assertEqual((first, second), kept)
            for variable in range(5):
                self.assertEqual(substituted(variable, both), substituted(substituted(variable, first), second))
                self.assertNotEqual(both.get(variable), variable)

    def test_shifted(self):
        self.assertEqual(shifted(("pair", 0, ("succ", 4)), 3), ("pair", 3, ("succ", 7)))
        self.assertEqual(shifted(2, 0), 2)
        self.assertEqual(shifted(("zero",), 9), ("zero",))

    def test_tidied(self):
        self.assertEqual(tidied((("pair", 4, ("succ", 2)), 4)), (("pair", 0, ("succ", 1)), 0))
        self.assertEqual(tidied(()), ())
        self.assertEqual(tidied((1, 0)), (0, 1))
        self.assertEqual(tidied((("pair", 1, 0), ("pair", 0, 1))), (("pair", 0, 1), ("pair", 1, 0)))
        self.assertEqual(tidied((number(2),)), (number(2),))


class Texts(unittest.TestCase):
    def test_write(self):
        for term, text in [(0, "x0"), (12, "x12"), (("zero",), "zero"), (("pair", 0, ("succ", ("zero",))),
                           "pair(x0,succ(zero))"), (10 ** 20, "x100000000000000000000")]:
            self.assertEqual(write_term(term), text)

    def test_read_what_is_written(self):
        rng = random.Random(2)
        for constructors in (PAIRS, WORDY, NUMBERS):
            for _ in range(200):
                term = random_term(rng, constructors, 12, 8)
                self.assertEqual(read_term(constructors, write_term(term)), term)
        self.assertEqual(read_term(NUMBERS, "x999999"), 999999)
        self.assertEqual(read_term(NUMBERS, "x0"), 0)
        self.assertEqual(read_term(NUMBERS, write_term(number(59))), number(59))
        self.assertEqual(read_term(WORDY, "f(x,xx(x0))"), ("f", ("x",), ("xx", 0)))

    def test_wrong_texts(self):
        wrong = ["", " ", "x", "x01", "x00", "x1000000", "x0000001", "x-1", "x 1", "x1 ", " x1", "X1", "x1x", "xx1",
                 "zero()", "zero(x0)", "succ", "succ()", "succ(x0", "succ(x0))", "succ x0", "succ(x0,x1)", "succ(,)",
                 "pair(x0)", "pair(x0,)", "pair(,x0)", "pair(x0,,x1)", "pair(x0, x1)", "pair(x0 ,x1)", "pair (x0,x1)",
                 "pair(x0;x1)", "pair(x0,x1),", "(zero)", "zero\n", "\nzero", "succ(zero)\n", "one", "Zero", "0", "12",
                 "zero,zero", "x1,x2", ")", "(", ",", "succ((zero))", "succ(zero)(zero)", "x1(zero)", "x" + "9" * 5000,
                 "zero" * 4, "a" * 13, "pair(zero)zero", "succ(~)", "succ(zero))"]
        for text in wrong:
            with self.assertRaises(BadText, msg=text):
                read_term(PAIRS, text)

    def test_each_sign_counts(self):
        for term in [("pair", ("succ", 10), ("pair", ("zero",), 3)), ("f", ("xx", 0), ("f", ("a",), ("ab",)))]:
            constructors = PAIRS if term[0] == "pair" else WORDY
            text = write_term(term)
            others = [text[:k] + text[k + 1:] for k in range(len(text))]
            signs = "xaz0195(), ~\n-"
            others.extend([text[:k] + sign + text[k:] for k in range(len(text) + 1) for sign in signs])
            others.extend([text[:k] + sign + text[k + 1:] for k in range(len(text)) for sign in signs])
            for other in others:
                try:
                    found = read_term(constructors, other)
                except BadText:
                    continue
                self.assertIs(is_term(constructors, found), True)
                self.assertEqual(write_term(found), other)

    def test_all_short_texts(self):
        constructors = (("x", 0), ("a", 1))
        right = {write_term(term) for term in [0, 1, ("x",), ("a", 0), ("a", 1), ("a", ("x",)), ("a", ("a", ("x",))),
                                               10, 11, 100, 101, 110, 111]}
        for many in range(5):
            for signs in itertools.product("xa01(),", repeat=many):
                text = "".join(signs)
                if text in right:
                    self.assertEqual(write_term(read_term(constructors, text)), text)
                else:
                    with self.assertRaises(BadText, msg=text):
                        read_term(constructors, text)

    def test_long_texts(self):
        for text in ["x" * 100000, "(" * 50 + "x" * 99000, "x" + "1" * 99999, "succ(" * 60, ("zero," * 20000)[:-1]]:
            with self.assertRaises(BadText):
                read_term(PAIRS, text)


class Lists(unittest.TestCase):
    def test_small_lists(self):
        self.assertEqual(closed_terms(NUMBERS, 3), [number(2)])
        self.assertEqual(closed_terms(PAIRS, 1), [("zero",)])
        z = ("zero",)
        self.assertEqual(closed_terms(PAIRS, 3), [("pair", z, z), ("succ", ("succ", z))])
        self.assertEqual(closed_terms((("b", 0), ("a", 0)), 1), [("a",), ("b",)])
        self.assertEqual(closed_terms((("b", 0), ("a", 0)), 2), [])

    def test_none_below_one(self):
        for n in (0, -1, -7):
            self.assertEqual(closed_terms(PAIRS, n), [])
            self.assertEqual(count_closed_terms(PAIRS, n), 0)

    def test_order_is_that_of_the_texts(self):
        wordy = (("b", 2), ("ab", 0), ("a", 1), ("aa", 0), ("abc", 1))
        for n in range(1, 7):
            texts = [write_term(term) for term in closed_terms(wordy, n)]
            self.assertEqual(texts, sorted(set(texts)))

    def test_all_and_only_terms_of_the_size(self):
        for constructors in (PAIRS, NUMBERS, WORDY, (("a", 0), ("b", 0), ("c", 0), ("f", 2), ("g", 2))):
            levels = {1: [(w,) for w, arity in constructors if arity == 0]}
            for n in range(2, 7):
                levels[n] = [(w, part) for w, arity in constructors if arity == 1 for part in levels[n - 1]]
                for k in range(1, n - 1):
                    levels[n].extend([(w, a, b) for w, arity in constructors if arity == 2
                                      for a in levels[k] for b in levels[n - 1 - k]])
            for n in range(1, 7):
                self.assertEqual(closed_terms(constructors, n), sorted(levels[n], key=write_term))
                self.assertEqual(count_closed_terms(constructors, n), len(levels[n]))

    def test_great_numbers(self):
        # Binary trees: the Catalan numbers.
        trees = (("leaf", 0), ("node", 2))
        self.assertEqual([count_closed_terms(trees, n) for n in range(1, 12)], [1, 0, 1, 0, 2, 0, 5, 0, 14, 0, 42])
        self.assertEqual(count_closed_terms(trees, 39), 1767263190)
        self.assertEqual(count_closed_terms(trees, 40), 0)
        self.assertEqual(count_closed_terms((("a", 0), ("b", 0), ("f", 1), ("g", 1)), 40), 2 ** 40)

    def test_what_is_returned_is_new(self):
        closed_terms(NUMBERS, 2).append(7)
        self.assertEqual(closed_terms(NUMBERS, 2), [number(1)])


if __name__ == "__main__":
    unittest.main()
