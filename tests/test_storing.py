"""Values stored as texts of digits (part 16)."""

import itertools
import random
import unittest

from casefamilies.answers import answer, has_solution
from casefamilies.errors import BadCode, FamilyError, NotThere
from casefamilies.storing import choices, restored, stored, texts_of
from plain_goals import plain_solutions, plainly_solves
from plain_trees import makers_in_order, plain_choices, plain_fault, plain_text
from samples import (
    COUNTED, EMPTY, EXPR, FORMS, NAMED, ODDITIES, PARITY, REGISTER, V, bounded, lively_signature, number, random_goal,
    random_signature, same, structure_mutants, vector)
from systems import PLAIN, nat, nats

FIRST = ("first",)
NIL = ("nil",)
ONE = ("vec", number(1))


def some_goals(many):
    """Return signatures with goals that have a type at least."""
    found = []
    for seed in range(many):
        signature = (NAMED + [random_signature(seed), lively_signature(seed)] * 8)[seed % 24]
        goal = random_goal(random.Random(seed), signature, 3, 4)
        if goal:
            found.append((signature, goal))
    return found


def fault_of(signature, goal, text):
    """Return the place of the error, or None if the text stores something."""
    try:
        restored(signature, goal, text)
    except BadCode as error:
        return error.place
    return None


class Choices(unittest.TestCase):
    def test_known_ones(self):
        self.assertEqual(choices(V, (("vec", ("succ", 0)),)), ["cons"])
        self.assertEqual(choices(V, (("vec", 0),)), ["nil", "cons"])
        self.assertEqual(choices(V, (("fin", number(1)),)), ["first"])
        self.assertEqual(choices(V, (("fin", number(2)),)), ["first", "more"])
        self.assertEqual(choices(V, (("fin", ("zero",)),)), [])
        # The other types forbid a choice, too.
        self.assertEqual(choices(V, (("vec", 0), ("fin", 0))), ["cons"])
        self.assertEqual(choices(V, (("vec", 0), ("fin", ("zero",)))), [])
        self.assertEqual(choices(PARITY, (("even", 0), ("never", 1))), [])
        self.assertEqual(choices(PARITY, (("never", 0),)), [])
        self.assertEqual(choices(EMPTY, (("none", 0),)), [])
        # A maker whose head fits, but whose arguments have no values.
        self.assertEqual(choices(EXPR, (("expr", ("nat",)),)), ["null", "apply"])
        self.assertEqual(choices(EXPR, (("expr", ("void",)),)), [])

    def test_by_the_words(self):
        some = 0
        for signature, goal in some_goals(240):
            found = choices(signature, goal)
            self.assertTrue(same(found, plain_choices(signature, goal)), (signature, goal))
            self.assertEqual(found != [], has_solution(signature, goal))
            some += len(found) > 1
        self.assertGreater(some, 20)

    def test_what_is_returned_is_new(self):
        choices(V, (("vec", 0),)).clear()
        self.assertEqual(choices(V, (("vec", 0),)), ["nil", "cons"])


class Stored(unittest.TestCase):
    def test_known_ones(self):
        self.assertEqual(stored(V, (ONE,), (("cons", ("more", FIRST), NIL),)), "10")
        self.assertEqual(stored(V, (ONE,), (("cons", FIRST, NIL),)), "0")
        self.assertEqual(stored(V, (("fin", number(1)),), (FIRST,)), "")
        self.assertEqual(stored(V, (("fin", number(4)),), (bounded(3),)), "111")
        self.assertEqual(stored(V, (("fin", number(4)),), (bounded(2),)), "110")
        self.assertEqual(stored(V, (("vec", number(0)),), (NIL,)), "")
        self.assertEqual(stored(V, (("vec", 0),), (NIL,)), "0")
        self.assertEqual(stored(V, (("vec", 0),), (vector(2),)), "10100")
        # With the number first, the vector has no choice about its length.
        self.assertEqual(stored(V, (("vec", 0), ("fin", 0)), (vector(1), FIRST)), "00")
        self.assertEqual(stored(V, (("fin", 0), ("vec", 0)), (FIRST, vector(1))), "000")
        self.assertEqual(stored(PLAIN, (("list", ("up", ("up", ("any",)))),), (nats(0, 2),)), "0110")
        self.assertEqual(stored(V, (), ()), "")

    def test_more_than_ten_digits(self):
        self.assertEqual(stored(PLAIN, (("nat", ("any",)),), (nat(19),)), "1" * 19 + "0")
        self.assertEqual(restored(PLAIN, (("nat", 0),), "1" * 19 + "0"), (nat(19),))

    def test_values_that_do_not_solve_the_goal(self):
        goal = (("vec", 0), ("fin", 0))
        self.assertEqual(restored(V, goal, stored(V, goal, (vector(2), bounded(1)))), (vector(2), bounded(1)))
        for values in [(vector(2), bounded(2)), (NIL, FIRST), (vector(1),), (vector(1), FIRST, FIRST), (), vector(1),
                       (FIRST, vector(1)), [vector(1), FIRST], (list(vector(1)), FIRST), (("cons", FIRST), FIRST),
                       (("cons", FIRST, "xs"), FIRST), (("cons", FIRST, (0, "vec")), FIRST), None, "nil",
                       (("cons", ("more", NIL), NIL), FIRST)]:
            with self.assertRaises(NotThere):
                stored(V, goal, values)
        for values in ODDITIES:
            if values not in [(), (NIL,)] or type(values) is not tuple:
                with self.assertRaises(NotThere):
                    stored(V, (("vec", 0),), values)
        with self.assertRaises(NotThere):
            stored(V, (), (NIL,))
        with self.assertRaises(NotThere):
            stored(V, (("vec", 0),), ())
        ill = ("keep", ("apply", ("null",), ("null",)))
        with self.assertRaises(NotThere):
            stored(EXPR, (("expr", 0),), (ill,))
        with self.assertRaises(FamilyError):
            stored(V, (("fin", ("zero",)),), (FIRST,))

    def test_by_the_words(self):
        tried = 0
        for signature, goal in some_goals(150):
            texts = {}
            for values in plain_solutions(signature, goal, 4 if len(goal) < 3 else 3)[:30]:
                text = stored(signature, goal, values)
                self.assertEqual(text, plain_text(signature, goal, values))
                self.assertEqual(restored(signature, goal, text), values)
                self.assertIn(text, texts_of(signature, goal, len(text)))
                texts[text] = values
                tried += 1
            # The texts are different, and none is the beginning of another one.
            for one, two in itertools.permutations(texts, 2):
                self.assertFalse(two.startswith(one), (signature, goal, one, two))
        self.assertGreater(tried, 300)

    def test_larger_values(self):
        tried = 0
        for signature, goal in some_goals(160):
            found = answer(signature, goal)
            if found[0] == "full" and len(makers_in_order(found[2])) <= 20:
                text = stored(signature, goal, found[2])
                self.assertEqual(restored(signature, goal, text), found[2])
                tried += 1
        self.assertGreater(tried, 60)


class Restored(unittest.TestCase):
    def test_known_ones(self):
        self.assertEqual(restored(V, (ONE,), "0"), (("cons", FIRST, NIL),))
        self.assertEqual(restored(V, (ONE,), "110"), (("cons", bounded(2), NIL),))
        self.assertEqual(restored(V, (("fin", number(1)),), ""), (FIRST,))
        self.assertEqual(restored(V, (), ""), ())
        self.assertEqual(restored(V, (("vec", 0), ("fin", 0)), "00"), (vector(1), FIRST))

    def test_texts_that_end_too_early(self):
        for text in ["", "1", "11", "111"]:
            self.assertEqual(fault_of(V, (ONE,), text), len(text))
        self.assertEqual(fault_of(V, (("vec", 0),), "101"), 3)

    def test_a_digit_too_many(self):
        self.assertEqual(fault_of(V, (ONE,), "00"), 1)
        self.assertEqual(fault_of(V, (ONE,), "1100"), 3)
        self.assertEqual(fault_of(V, (("fin", number(1)),), "0"), 0)
        self.assertEqual(fault_of(V, (), "0"), 0)
        self.assertEqual(fault_of(V, (), "a"), 0)
        self.assertEqual(fault_of(V, (ONE,), "0 "), 1)

    def test_signs_that_cannot_stand(self):
        for sign in ["2", "9", "a", " ", "-", "+", ".", "\n", "/", ":", "~", "\u0661", "\u00b9", "\uff11"]:
            self.assertEqual(fault_of(V, (ONE,), sign), 0, repr(sign))
            self.assertEqual(fault_of(V, (ONE,), "1" + sign), 1)
            self.assertEqual(fault_of(V, (ONE,), "1" + sign + "0"), 1)
            self.assertEqual(fault_of(V, (ONE,), "0" + sign), 1)

    def test_goals_without_solutions(self):
        for goal in [(("fin", ("zero",)),), (("vec", 0), ("fin", ("zero",)))]:
            for text in ["", "0", "1", "00", "abc"]:
                self.assertEqual(fault_of(V, goal, text), 0)
        self.assertEqual(fault_of(EMPTY, (("none", 0),), "00"), 0)
        self.assertEqual(fault_of(PARITY, (("never", 0),), "0"), 0)

    def test_the_error(self):
        with self.assertRaises(BadCode) as found:
            restored(V, (ONE,), "1102")
        self.assertTrue(same(found.exception.place, 3))
        self.assertEqual(BadCode(7).place, 7)
        self.assertIsInstance(BadCode(0), FamilyError)

    def test_makers_that_need_no_digit(self):
        # All is forced: the text is empty.
        forced = ((("z", 0), ("s", 1)), ("f",), (("stop", "f", ("z",), ()), ("go", "f", ("s", 0), (("f", 0),))))
        goal = (("f", ("s", ("s", ("s", ("z",))))),) * 3
        value = ("go", ("go", ("go", ("stop",))))
        self.assertEqual(stored(forced, goal, (value,) * 3), "")
        self.assertEqual(restored(forced, goal, ""), (value,) * 3)
        self.assertEqual(texts_of(forced, goal, 0), [""])
        self.assertEqual(texts_of(forced, goal, 1), [])
        # The first value tells the index of the others.
        self.assertEqual(stored(forced, (("f", 0), ("f", 0)), (value, value)), "1110")

    def test_by_the_words(self):
        tried = {True: 0, False: 0}
        for seed, (signature, goal) in enumerate(some_goals(200)):
            rng = random.Random(seed)
            for _ in range(12):
                text = "".join(rng.choice("00000111234") for _ in range(rng.randint(0, 4)))
                if not has_solution(signature, goal):
                    self.assertEqual(fault_of(signature, goal, text), 0)
                    continue
                wanted = plain_fault(signature, goal, text)
                self.assertTrue(same(fault_of(signature, goal, text), wanted), (signature, goal, text))
                tried[wanted is None] += 1
                if wanted is None:
                    values = restored(signature, goal, text)
                    self.assertTrue(plainly_solves(signature, goal, values))
                    self.assertEqual(stored(signature, goal, values), text)
        self.assertGreater(min(tried.values()), 80)

    def test_beginnings(self):
        # Each beginning up to the place is one of a stored text, and no longer one is.
        for signature, goal in some_goals(96):
            texts = [text for n in range(4) for text in texts_of(signature, goal, n)]
            for text in texts[:20]:
                self.assertIsNone(fault_of(signature, goal, text))
                for n in range(len(text)):
                    self.assertEqual(fault_of(signature, goal, text[:n]), n)
                self.assertEqual(fault_of(signature, goal, text + "0"), len(text))
                for k, sign in itertools.product(range(len(text)), "0123a"):
                    changed = text[:k] + sign + text[k + 1:]
                    place = fault_of(signature, goal, changed)
                    if place is not None:
                        self.assertGreaterEqual(place, k)
                        self.assertFalse(any(other[:place + 1] == changed[:place + 1] and len(other) > place
                                             for other in texts if place < len(changed)))


class Texts(unittest.TestCase):
    def test_known_ones(self):
        three = (("fin", number(3)),)
        self.assertEqual([texts_of(V, three, n) for n in range(4)], [[], ["0"], ["10", "11"], []])
        self.assertEqual([texts_of(V, (("vec", 0),), n) for n in range(4)], [[], ["0"], [], ["100"]])
        self.assertEqual([texts_of(V, (), n) for n in range(3)], [[""], [], []])
        self.assertEqual(texts_of(V, (("fin", ("zero",)),), 0), [])
        self.assertEqual(texts_of(V, (("fin", ("zero",)),), 3), [])
        self.assertEqual(texts_of(PLAIN, (("nat", 0),) * 2, 3), ["010", "100"])
        self.assertEqual(texts_of(EMPTY, (("none", 0),), 0), [])

    def test_by_the_words(self):
        many = 0
        for signature, goal in some_goals(96):
            for n in range(4):
                found = texts_of(signature, goal, n)
                self.assertIs(type(found), list)
                self.assertEqual(found, sorted(set(found)))
                digits = "01234567" if n < 3 else "012"
                if n < 3 or len(found) < 40:
                    tried = ["".join(row) for row in itertools.product(digits, repeat=n)]
                    wanted = [text for text in tried[:90] if fault_of(signature, goal, text) is None]
                    self.assertEqual([text for text in found if text in tried[:90]], wanted)
                self.assertTrue(all(len(text) == n for text in found))
                many += len(found)
        self.assertGreater(many, 150)

    def test_greatest_ones_end_soon(self):
        wide = ((("z", 0), ("s", 1)), ("f",), tuple((name, "f", 0, ()) for name in "abcde") + (
            ("one", "f", 0, (("f", 0),)), ("two", "f", 0, (("f", 0), ("f", 1))),
            ("three", "f", 0, (("f", 0), ("f", ("s", 1)), ("f", 2)))))
        goal = (("f", 0), ("f", 0), ("f", ("s", 1)))
        found = texts_of(wide, goal, 4)
        self.assertEqual(len(found), 3 * 5 ** 3 + 3 * 0)
        for text in found[::25]:
            self.assertEqual(stored(wide, goal, restored(wide, goal, text)), text)
        self.assertEqual(len(texts_of(wide, goal[:1], 4)), 5 + 3 * 25 + 125)
        for n in range(5):
            self.assertEqual(texts_of(REGISTER, (("fd", 0), ("fa", 0)), n),
                             sorted(texts_of(REGISTER, (("fd", 0), ("fa", 0)), n)))

    def test_what_is_returned_is_new(self):
        goal = (("fin", number(3)),)
        texts_of(V, goal, 2).clear()
        self.assertEqual(texts_of(V, goal, 2), ["10", "11"])

    def test_values_of_other_forms(self):
        # What solves the goal and what does not is told apart for changed values.
        goal = (("vec", 0), ("fin", 0))
        values = (vector(2), bounded(1))
        for mutant in structure_mutants(values):
            try:
                text = stored(V, goal, mutant)
            except NotThere:
                continue
            self.assertEqual(restored(V, goal, text), mutant)

    def test_goals_of_several_families(self):
        for signature, goal in [(FORMS, (("both", 0), ("left", ("node", 0, 1)))),
                                (COUNTED, (("great", 0), ("two", 0)))]:
            for n in range(4):
                for text in texts_of(signature, goal, n):
                    self.assertTrue(plainly_solves(signature, goal, restored(signature, goal, text)))


if __name__ == "__main__":
    unittest.main()
