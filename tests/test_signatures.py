"""Signatures and goals (part 3)."""

import random
import unittest

from casefamilies.errors import Unknown
from casefamilies.signatures import (
    after, families_below, fitting, goal_variables, is_goal, is_signature, maker_of, makers_of, tidied_goal)
from reference import is_plain_signature, plain_unifier
from samples import (
    EMPTY, EXPR, FORMS, NAMED, NUMBERS, ODDITIES, PARITY, TREES, V, agreeable_mutants, number, random_signature,
    random_term, replaced, structure_mutants, variables_of)

FIRST = ("first", "fin", ("succ", 0), ())


def with_maker(maker):
    """Return the signature of numbers and trees with one maker."""
    return (NUMBERS + TREES, ("fin", "vec"), (maker,))


class Signatures(unittest.TestCase):
    def test_signatures(self):
        for signature in NAMED + [random_signature(seed) for seed in range(100)]:
            self.assertIs(is_signature(signature), True, signature)

    def test_makers_at_the_edges(self):
        six = ("node", ("succ", 0), ("node", 1, ("leaf",)))
        for maker in [("m", "fin", 0, ()), ("m", "fin", ("leaf",), ()), ("m", "fin", ("node", 0, 1), ()),
                      ("fin", "fin", ("node", 0, 1), (("vec", 3 - 1), ("fin", 3))),
                      ("m", "fin", 0, (("fin", 0), ("fin", 0), ("fin", 0))),
                      ("m", "fin", ("zero",), (("fin", six),)),
                      ("succ", "vec", ("node", 0, 1), (("vec", ("node", 2, 0)), ("fin", ("node", 3, 2))))]:
            self.assertIs(is_signature(with_maker(maker)), True, maker)

    def test_wrong_makers(self):
        seven = ("node", ("succ", 0), ("node", 1, ("succ", ("leaf",))))
        wrong = [("m", "fin", 0), ("m", "fin", 0, (), ()), ["m", "fin", 0, ()], ("M", "fin", 0, ()),
                 ("m\n", "fin", 0, ()),
                 ("", "fin", 0, ()), (0, "fin", 0, ()), ("m", "none", 0, ()), ("m", 0, 0, ()), ("m", ["fin"], 0, ()),
                 ("m", "fin", 1, ()), ("m", "fin", True, ()), ("m", "fin", False, ()), ("m", "fin", -1, ()),
                 ("m", "fin", "zero", ()), ("m", "fin", ["zero"], ()), ("m", "fin", ("zero", 0), ()),
                 ("m", "fin", ("succ", ("zero",)), ()), ("m", "fin", ("succ", ("succ", 0)), ()),
                 ("m", "fin", ("node", ("node", 0, 1), ("leaf",)), ()), ("m", "fin", ("succ", 1), ()),
                 ("m", "fin", ("node", 0, 0), ()),
                 ("m", "fin", ("node", 1, 0), ()), ("m", "fin", ("node", 0, ("leaf",)), ()),
                 ("m", "fin", ("succ", False), ()),
                 ("m", "fin", ("other",), ()), ("m", "fin", 0, []), ("m", "fin", 0, None), ("m", "fin", 0, ("fin", 0)),
                 ("m", "fin", 0, (("fin", 0),) * 4), ("m", "fin", 0, (("fin",),)), ("m", "fin", 0, (("fin", 0, 0),)),
                 ("m", "fin", 0, (["fin", 0],)), ("m", "fin", 0, (("none", 0),)), ("m", "fin", 0, (("fin", 2),)),
                 ("m", "fin", 0, (("fin", True),)), ("m", "fin", 0, (("fin", ("succ",)),)),
                 ("m", "fin", ("zero",), (("fin", 1),)), ("m", "fin", ("zero",), (("fin", ("node", 1, 0)),)),
                 ("m", "fin", ("zero",), (("fin", seven),)), ("m", "fin", 0, (("fin", number(6)),)),
                 ("m", "fin", ("node", 0, 1), (("fin", ("node", 2, 3)), ("fin", 4))),
                 ("m", "fin", ("zero",), (("fin", ("node", 0, 2)), ("fin", 1)))]
        for maker in wrong:
            self.assertIs(is_signature(with_maker(maker)), False, repr(maker))

    def test_wrong_signatures(self):
        constructors, families, makers = V
        many = tuple(["m" + letter for letter in "abcdefghi"])
        wrong = [(constructors, families), V + ((),), list(V), (list(constructors), families, makers),
                 (constructors, list(families), makers), (constructors, families, list(makers)),
                 (constructors, (), ()), (constructors, ("fin", "fin"), ()),
                 (constructors, ("fin", "vec", "fin"), makers),
                 (constructors, tuple("abcde"), ()), (constructors, ("fin", "vec", 0), makers),
                 (constructors, ("fin", "vec", "Vec"), makers), (constructors, ("fin", "vec", "vec\n"), makers),
                 (constructors, ("fin", ["vec"]), ()), (constructors, "fin", ()), ((), families, ()),
                 ((("succ", 1),), families, ()), (constructors, ("fin",), makers),
                 (constructors, families, makers[:1] * 2),
                 (constructors, families, (FIRST, ("first", "vec", 0, ()))), (constructors, families, None),
                 (constructors, families, tuple([(name, "fin", 0, ()) for name in many])),
                 ((("zero", 0),), families, makers), (constructors, families, (None,)), (constructors, families, FIRST)]
        for value in wrong + ODDITIES:
            if value != ((("a", 0),), ("f",), ()):
                self.assertIs(is_signature(value), False, repr(value))
        eight = tuple([(name, "fin", 0, ()) for name in many[:8]])
        self.assertIs(is_signature((constructors, tuple("abc") + ("fin",), eight)), True)

    def test_changed_signatures(self):
        for signature in (V, EXPR, FORMS, EMPTY):
            for mutant in structure_mutants(signature):
                self.assertIs(is_signature(mutant), is_plain_signature(mutant), repr(mutant))

    def test_things_that_claim_to_be_equal(self):
        for mutant in agreeable_mutants(V):
            self.assertIs(is_signature(mutant), False)
        for mutant in agreeable_mutants((("fin", ("succ", 0)), ("vec", number(1)))):
            self.assertIs(is_goal(V, mutant), False)


class Makers(unittest.TestCase):
    def test_maker_of(self):
        for maker in V[2]:
            self.assertEqual(maker_of(V, maker[0]), maker)
        for word in ("fin", "zero", "", "Nil"):
            with self.assertRaises(Unknown):
                maker_of(V, word)

    def test_makers_of(self):
        self.assertEqual(makers_of(V, "fin"), ["first", "more"])
        self.assertEqual(makers_of(V, "vec"), ["nil", "cons"])
        self.assertEqual(makers_of(EMPTY, "none"), [])
        makers_of(V, "fin").clear()
        self.assertEqual(makers_of(V, "fin"), ["first", "more"])
        turned = (V[0], V[1], V[2][::-1])
        self.assertEqual(makers_of(turned, "fin"), ["more", "first"])

    def test_fitting(self):
        self.assertEqual(fitting(V, "vec", ("succ", ("zero",))), ["cons"])
        self.assertEqual(fitting(V, "vec", number(0)), ["nil"])
        self.assertEqual(fitting(V, "vec", 0), ["nil", "cons"])
        self.assertEqual(fitting(V, "vec", ("succ", 0)), ["cons"])
        self.assertEqual(fitting(V, "fin", number(0)), [])
        self.assertEqual(fitting(V, "fin", 5), ["first", "more"])
        self.assertEqual(fitting(FORMS, "both", ("node", 0, 0)), ["mixed"])
        self.assertEqual(fitting(FORMS, "both", ("leaf",)), ["lone", "mixed"])

    def test_families_below(self):
        self.assertEqual(families_below(V, "vec"), ["fin", "vec"])
        self.assertEqual(families_below(V, "fin"), ["fin"])
        self.assertEqual(families_below(EMPTY, "none"), ["none"])
        self.assertEqual(families_below(FORMS, "left"), ["both", "left", "right"])
        self.assertEqual(families_below(PARITY, "odd"), ["even", "odd"])
        self.assertEqual(families_below(PARITY, "never"), ["never"])
        chain = (NUMBERS, ("d", "c", "b", "a"), (("m", "d", 0, (("c", 0),)), ("n", "c", 0, (("a", 0), ("c", 0))),
                                                 ("o", "b", 0, (("d", 0),))))
        self.assertEqual(families_below(chain, "b"), ["a", "b", "c", "d"])
        self.assertEqual(families_below(chain, "d"), ["a", "c", "d"])
        self.assertEqual(families_below(chain, "a"), ["a"])


class Goals(unittest.TestCase):
    def test_goals(self):
        for goal in [(), (("fin", 0),), (("fin", 7), ("vec", ("succ", 7))), (("vec", number(3)),) * 5]:
            self.assertIs(is_goal(V, goal), True, goal)

    def test_no_goals(self):
        for goal in [[], [("fin", 0)], ("fin", 0), (["fin", 0],), (("fin",),), (("fin", 0, 0),), (("none", 0),),
                     (("fin", True),), (("fin", -1),), (("fin", "x"),), (("fin", ["zero"]),), (("fin", ("leaf",)),),
                     (("fin\n", 0),), ((0, "fin"),), (("fin", 0), None), None, True, 0, "fin", {},
                     (("fin", ("succ",)),),
                     (((), 0),), ((["fin"], 0),)]:
            self.assertIs(is_goal(V, goal), False, repr(goal))
        for value in ODDITIES:
            self.assertIs(is_goal(V, value), value == () and type(value) is tuple, repr(value))

    def test_variables(self):
        goal = (("vec", ("succ", 3)), ("fin", 3), ("fin", 1))
        self.assertEqual(goal_variables(goal), [3, 1])
        self.assertEqual(goal_variables(()), [])
        self.assertEqual(goal_variables((("fin", number(2)),)), [])
        self.assertEqual(tidied_goal(goal), (("vec", ("succ", 0)), ("fin", 0), ("fin", 1)))
        self.assertEqual(tidied_goal(()), ())
        self.assertEqual(tidied_goal((("fin", 1), ("vec", 0))), (("fin", 0), ("vec", 1)))
        found = goal_variables(goal)
        found.append(4)
        self.assertEqual(goal_variables(goal), [3, 1])

    def test_after(self):
        self.assertEqual(after(V, (("vec", ("succ", 3)), ("fin", 3)), "cons"),
                         (("fin", ("succ", 0)), ("vec", 1), ("fin", 1)))
        self.assertIsNone(after(V, (("vec", number(0)),), "cons"))
        self.assertIsNone(after(V, (("vec", ("succ", 0)), ("fin", 0)), "nil"))
        self.assertEqual(after(V, (("vec", 4), ("fin", 4)), "nil"), (("fin", ("zero",)),))
        self.assertEqual(after(V, (("vec", number(0)),), "nil"), ())
        self.assertEqual(after(V, (("fin", 0), ("fin", 0), ("vec", 1)), "more"),
                         (("fin", 0), ("fin", ("succ", 0)), ("vec", 1)))
        self.assertEqual(after(V, (("fin", number(2)),), "more"), (("fin", number(1)),))
        self.assertEqual(after(FORMS, (("both", ("node", 2, 2)),), "mixed"),
                         (("left", ("node", ("node", 0, 0), 1)), ("right", ("node", 1, ("node", 0, 0)))))

    def test_after_by_the_words(self):
        rng = random.Random(8)
        for seed in range(150):
            signature = random_signature(seed)
            constructors, families, makers = signature
            for maker in makers:
                goal = ((maker[1], random_term(rng, constructors, 3, 4)),
                        (families[0], random_term(rng, constructors, 4, 4)))
                apart = {k: k + 50 for k in range(4)}
                found = plain_unifier([(replaced(maker[2], apart), goal[0][1])])
                if found is None:
                    self.assertIsNone(after(signature, goal, maker[0]))
                    continue
                asked = tuple([(family, replaced(index, apart)) for family, index in maker[3]]) + goal[1:]
                asked = tuple([(family, replaced(index, found)) for family, index in asked])
                names = {old: new for new, old in enumerate(variables_of([index for family, index in asked]))}
                wanted = tuple([(family, replaced(index, names)) for family, index in asked])
                self.assertEqual(after(signature, goal, maker[0]), wanted)

    def test_after_takes_names_apart(self):
        for signature in NAMED:
            for maker in signature[2]:
                for n in range(6):
                    self.assertEqual(after(signature, ((maker[1], n),), maker[0]), tidied_goal(maker[3]))


if __name__ == "__main__":
    unittest.main()
