"""Index sets (points 6.3 to 6.5)."""

import itertools
import unittest

from casefamilies.indexsets import (
    count_indices, count_likenesses, first_difference, indices_of, is_finite, is_part, least_index)
from casefamilies.profiles import profile, profiles
from casefamilies.terms import closed_terms, count_closed_terms, write_term
from samples import (
    COUNTED, DOWN, EMPTY, EXPR, FORMS, NAMED, NUMBERS, PARITY, REGISTER, STEPS, V, number, random_signature)


def some_terms(signature, most):
    """Return the first closed terms of a signature, in order."""
    return [term for n in range(1, 7) for term in closed_terms(signature[0], n)][:most]


class Lists(unittest.TestCase):
    def test_known_ones(self):
        self.assertEqual(indices_of(V, "fin", 1), [])
        self.assertEqual(indices_of(V, "fin", 3), [number(2)])
        self.assertEqual(indices_of(V, "vec", 1), [number(0)])
        self.assertEqual(indices_of(EXPR, "expr", 1), [("bool",), ("nat",)])
        self.assertEqual([len(indices_of(EXPR, "expr", n)) for n in (-1, 0, 2)], [0, 0, 0])
        self.assertEqual([count_indices(EXPR, "expr", n) for n in (-3, -1, 0, 2)], [0, 0, 0, 0])
        kinds = [("arrow", (a,), (b,)) for a in ("bool", "nat", "void") for b in ("bool", "nat")]
        self.assertEqual(indices_of(EXPR, "expr", 3), kinds)
        self.assertEqual(indices_of(COUNTED, "no", 2), [])

    def test_lists_and_numbers(self):
        for signature in NAMED + [random_signature(seed) for seed in range(60)]:
            for n in range(0, 6):
                listed = closed_terms(signature[0], n)[:400]
                shown = {write_term(term): profile(signature, term) for term in listed[:40]}
                for family in signature[1]:
                    found = indices_of(signature, family, n)
                    self.assertEqual(count_indices(signature, family, n), len(found))
                    self.assertEqual(found, sorted(found, key=write_term))
                    texts = [write_term(term) for term in found]
                    self.assertEqual(len(set(texts)), len(texts))
                    for text, families in shown.items():
                        self.assertEqual(text in texts, family in families)

    def test_great_numbers(self):
        self.assertEqual(count_indices(V, "vec", 40), 1)
        self.assertEqual(count_indices(PARITY, "odd", 40), 1)
        self.assertEqual(count_indices(PARITY, "even", 40), 0)
        # Among the words of s and t, the last four letters decide.
        self.assertEqual(count_indices((REGISTER[0][:3], REGISTER[1], REGISTER[2][:7]), "fc", 40), 2 ** 38)
        both = count_indices(EXPR, "expr", 39)
        self.assertLess(both, count_closed_terms(EXPR[0], 39))
        self.assertGreater(both, count_closed_terms(EXPR[0], 39) // 3)
        self.assertGreater(count_indices(REGISTER, "fd", 40), 10 ** 15)

    def test_what_is_returned_is_new(self):
        indices_of(V, "fin", 3).clear()
        self.assertEqual(indices_of(V, "fin", 3), [number(2)])


class LeastIndices(unittest.TestCase):
    def test_known_ones(self):
        self.assertEqual(least_index(V, ("vec",)), number(0))
        self.assertEqual(least_index(V, ("fin", "vec")), number(1))
        self.assertIsNone(least_index(V, ()))
        self.assertIsNone(least_index(V, ("fin",)))
        self.assertEqual(least_index(EXPR, ("expr",)), ("bool",))
        self.assertEqual(least_index(EXPR, ()), ("void",))
        self.assertEqual(least_index(PARITY, ("odd",)), number(1))
        self.assertIsNone(least_index(PARITY, ("even", "odd")))
        self.assertEqual(least_index(REGISTER, ()), ("z",))
        self.assertEqual(least_index(REGISTER, STEPS), ("t", ("t", ("t", ("t", ("z",))))))

    def test_first_in_order(self):
        for signature in NAMED + [random_signature(seed) for seed in range(150)]:
            terms = some_terms(signature, 100)
            first = {}
            for term in terms:
                first.setdefault(profile(signature, term), term)
            for wanted in profiles(signature):
                found = least_index(signature, wanted)
                self.assertEqual(profile(signature, found), wanted)
                self.assertEqual(first.get(wanted, found), found)

    def test_texts_decide_between_terms_of_one_size(self):
        # ab comes before b, and b before the greater word ba, also within parentheses.
        words = (("b", 0), ("ab", 0), ("ba", 0), ("f", 2), ("e", 2))
        odd = (words, ("p", "q"), (("m", "p", ("b",), ()), ("n", "p", ("ba",), ()),
                                   ("o", "q", ("f", 0, 1), (("p", 0), ("p", 1))),
                                   ("r", "q", ("e", 0, 1), (("p", 1), ("p", 0)))))
        self.assertEqual(least_index(odd, ("q",)), ("e", ("b",), ("b",)))
        self.assertEqual(least_index(odd, ("p",)), ("b",))
        self.assertEqual(least_index(odd, ()), ("ab",))

    def test_a_state_keeps_its_first_term(self):
        # While the terms of u and v grow, there are greater ones of p in between.
        words = (("a", 0), ("g", 1), ("h", 1), ("f", 2))
        chain = (words, ("p", "r", "u", "v"), (
            ("m", "p", ("a",), ()), ("n", "p", ("g", 0), (("p", 0),)), ("o", "u", ("h", 0), (("p", 0),)),
            ("s", "v", ("h", 0), (("u", 0),)), ("t", "r", ("f", 0, 1), (("p", 0), ("v", 1)))))
        self.assertEqual(least_index(chain, ("r",)), ("f", ("a",), ("h", ("h", ("a",)))))


class Sizes(unittest.TestCase):
    def test_finite(self):
        for signature, family, wanted in [(COUNTED, "no", True), (COUNTED, "one", True), (COUNTED, "two", True),
                                          (COUNTED, "great", False), (V, "fin", False), (V, "vec", False),
                                          (PARITY, "never", True), (PARITY, "odd", False), (EMPTY, "none", True),
                                          (EXPR, "expr", False), (REGISTER, "fd", False), (DOWN, "down", False)]:
            self.assertIs(is_finite(signature, family), wanted, (signature, family))
        flat = ((("a", 0), ("b", 0)), ("f",), (("m", "f", 0, ()),))
        self.assertIs(is_finite(flat, "f"), True)
        flat = ((("a", 0), ("b", 1)), ("f",), (("m", "f", 0, ()),))
        self.assertIs(is_finite(flat, "f"), False)

    def test_finite_by_the_sizes(self):
        # Each profile has a term whose height is below 16: greater terms than those can be made from them.
        for signature in NAMED + [random_signature(seed) for seed in range(150)]:
            states = len(profiles(signature))
            if states > 4:
                continue
            for family in signature[1]:
                greatest = 2 ** (states + 1)
                many = sum(count_indices(signature, family, n) for n in range(greatest, 2 * greatest + 1))
                self.assertEqual(is_finite(signature, family), many == 0)

    def test_part(self):
        for signature, first, second, wanted in [(V, "fin", "vec", True), (V, "vec", "fin", False),
                                                 (V, "fin", "fin", True),
                                                 (COUNTED, "no", "one", True), (COUNTED, "one", "two", True),
                                                 (COUNTED, "two", "great", False), (COUNTED, "two", "one", False),
                                                 (PARITY, "odd", "even", False), (PARITY, "never", "odd", True)]:
            self.assertIs(is_part(signature, first, second), wanted, (first, second))
        for signature in NAMED + [random_signature(seed) for seed in range(60)]:
            known = profiles(signature)
            for first, second in itertools.product(signature[1], repeat=2):
                wanted = all(second in families for families in known if first in families)
                self.assertIs(is_part(signature, first, second), wanted)


class Differences(unittest.TestCase):
    def test_known_ones(self):
        self.assertEqual(first_difference(V, "fin", V, "vec"), number(0))
        self.assertIsNone(first_difference(V, "fin", V, "fin"))
        self.assertIsNone(first_difference(V, "vec", V, "vec"))
        self.assertEqual(first_difference(V, "fin", PARITY, "odd"), number(2))
        self.assertEqual(first_difference(COUNTED, "great", V, "fin"), None)
        self.assertEqual(first_difference(COUNTED, "two", PARITY, "never"), number(0))
        self.assertEqual(first_difference(COUNTED, "two", COUNTED, "one"), number(1))
        self.assertEqual(first_difference(V, "vec", COUNTED, "great"), number(0))

    def test_words_are_what_counts_and_not_their_order(self):
        turned = (NUMBERS[::-1],) + V[1:]
        self.assertIsNone(first_difference(V, "fin", turned, "fin"))
        self.assertEqual(first_difference(turned, "fin", V, "vec"), number(0))

    def test_far_differences(self):
        # The remainders by 3 and by 4 agree for a while.
        def steps(n):
            families = tuple("abcd"[:n])
            makers = [("go" + families[k], families[(k + 1) % n], ("succ", 0), ((families[k], 0),)) for k in range(n)]
            return (NUMBERS, families, (("begin", "a", ("zero",), ()),) + tuple(makers))
        self.assertEqual(first_difference(steps(3), "a", steps(4), "a"), number(3))
        self.assertEqual(first_difference(steps(3), "c", steps(4), "d"), number(2))
        self.assertIsNone(first_difference(steps(4), "d", steps(4), "d"))
        both = (NUMBERS, ("a", "b", "c", "d"), steps(4)[2] + (("also", "b", 0, (("d", 0),)),))
        self.assertEqual(first_difference(both, "b", PARITY, "odd"), None)

    def test_first_in_order(self):
        for seed in range(150):
            one = random_signature(seed)
            terms = some_terms(one, 80)
            here = [profile(one, term) for term in terms]
            for two, there in [(one, here), ((one[0], ("no",), ()), [()] * len(terms))]:
                for first, second in itertools.product(one[1][:2], two[1][:2]):
                    rows = zip(terms, here, there)
                    differing = [term for term, a, b in rows if (first in a) != (second in b)]
                    found = first_difference(one, first, two, second)
                    if differing:
                        self.assertEqual(found, differing[0])
                    elif found is not None:
                        self.assertNotEqual(first in profile(one, found), second in profile(two, found))
                        self.assertNotIn(found, terms)

    def test_great_ones(self):
        for first, second in itertools.product(STEPS, repeat=2):
            found = first_difference(REGISTER, first, REGISTER, second)
            self.assertEqual(found is None, first == second)


class Likenesses(unittest.TestCase):
    def test_known_ones(self):
        for signature, family, wanted in [(V, "fin", 2), (V, "vec", 1), (PARITY, "odd", 2), (PARITY, "never", 1),
                                          (COUNTED, "no", 1), (COUNTED, "one", 2), (COUNTED, "two", 3),
                                          (COUNTED, "great", 2),
                                          (EMPTY, "none", 1), (EXPR, "expr", 2), (REGISTER, "fa", 2),
                                          (DOWN, "mark", 2)]:
            self.assertEqual(count_likenesses(signature, family), wanted, family)
        words = (REGISTER[0][:3], REGISTER[1], REGISTER[2][:7])
        self.assertEqual([count_likenesses(words, family) for family in STEPS], [2, 4, 8, 16])

    def test_by_the_words(self):
        for signature in [FORMS, REGISTER, DOWN, EXPR] + [random_signature(seed) for seed in range(80)]:
            known = profiles(signature)
            moves = moves_of(signature, known)
            for family in signature[1]:
                wanted = plain_likenesses(moves, [family in families for families in known])
                self.assertEqual(count_likenesses(signature, family), wanted, (signature, family))


def moves_of(signature, known):
    """Return for each profile the numbers of those of the terms of one more level around it."""
    leaders = [least_index(signature, wanted) for wanted in known]
    moves = []
    for leader in leaders:
        found = [(word, leader) for word, arity in signature[0] if arity == 1]
        for word in [word for word, arity in signature[0] if arity == 2]:
            found.extend((word, leader, other) for other in leaders)
            found.extend((word, other, leader) for other in leaders)
        moves.append([known.index(profile(signature, term)) for term in found])
    return moves


def plain_likenesses(moves, inside):
    """Return the number of classes of alike profiles.

    Two of them are told apart by a term around them if they are not alike: the pairs that are
    told apart by terms of one more level are worked out until there are no more.
    """
    pairs = list(itertools.combinations(range(len(inside)), 2))
    apart = {(a, b) for a, b in pairs if inside[a] != inside[b]}
    while True:
        more = {(a, b) for a, b in pairs if (a, b) not in apart
                and any((min(row), max(row)) in apart for row in zip(moves[a], moves[b]))}
        if not more:
            return len([k for k in range(len(inside)) if all((j, k) in apart for j in range(k))])
        apart |= more


if __name__ == "__main__":
    unittest.main()
