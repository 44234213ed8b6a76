"""Case trees, and what they do with inputs (points 15.1 to 15.3)."""

import itertools
import unittest

from casefamilies.casetrees import case_tree, case_tree_by, looked_at, most_looks, run_tree
from casefamilies.covers import is_covered
from casefamilies.programs import first_clause, is_program
from casefamilies.treechecks import check_tree
from drafts import P
from plain_programs import plain_first
from plain_trees import is_right_case_tree, plain_tree_by, trees_in
from reference import values_up_to
from samples import COUNTED, EMPTY, PARITY, V, bounded, same, vector
from systems import (
    CLOSED, KNOWN, LISTS, NAT, PLAIN, SHARED, SUMS, TOGETHER, TURNS, VOID, ZERO, nat, program_of, shared_program,
    some_program, split_program)
from test_covers import inputs_up_to

FIRST = ("first",)
NIL = ("nil",)
TREE = ("look", (0,), (("cons", ("look", (0, 1), (("nil", ("take", 0)), ("cons", ("take", 1))))),))


def plain(*clauses):
    """Return a program over plain numbers with one function of as many arguments as the patterns are."""
    many = len(clauses[0])
    return program_of(PLAIN, ("f", (NAT,) * many, NAT, tuple((patterns, ZERO) for patterns in clauses)))


S = ("s", "a")
# Each clause has a maker at one argument only.
CROSS = plain((S, "b", "c"), ("a", ("s", "b"), "c"), ("a", "b", ("s", "c")))


class Trees(unittest.TestCase):
    def test_known_ones(self):
        self.assertEqual(case_tree_by(P, "place", (0,)), TREE)
        self.assertIs(check_tree(P, "place", case_tree(P, "place")), True)
        self.assertEqual(case_tree_by(SUMS, "plus", (0, 1)), ("look", (0,), (("o", ("take", 0)), ("s", ("take", 1)))))
        self.assertEqual(case_tree_by(SUMS, "plus", (1, 0)), ("look", (0,), (("o", ("take", 0)), ("s", ("take", 1)))))

    def test_no_input(self):
        for program, word in [(VOID, "lost"), (VOID, "clash")]:
            self.assertEqual(case_tree(program, word), ("never",))
            many = len([function for function in program[1] if function[0] == word][0][1])
            self.assertEqual(case_tree_by(program, word, tuple(range(many))), ("never",))
        never = program_of(V, ("f", (("fin", ("zero",)),), ("fin", 0), ((("a",), "a"),)))
        self.assertEqual(case_tree(never, "f"), ("never",))
        nothing = program_of(EMPTY, ("f", (("none", 0),), ("none", 0), ()))
        self.assertEqual(case_tree(nothing, "f"), ("never",))

    def test_no_clause(self):
        program = program_of(V, ("f", (("fin", 0),), ("fin", 0), ()))
        self.assertEqual(case_tree(program, "f"), ("miss",))
        # The only clause has a maker that no input has.
        program = program_of(V, ("f", (("vec", ("succ", 0)),), ("fin", 0), (((NIL,), FIRST),)))
        self.assertEqual(case_tree(program, "f"), ("miss",))
        program = program_of(PARITY, ("f", (("even", ("zero",)),), ("even", 0), (((("upper", "a"),), ("none",)),)))
        self.assertEqual(case_tree(program, "f"), ("miss",))

    def test_no_look(self):
        self.assertEqual(case_tree(plain(("a",)), "f"), ("take", 0))
        self.assertEqual(case_tree(plain(("a",), (S,)), "f"), ("take", 0))
        # Where the index leaves one maker, no one needs to look for it.
        program = program_of(V, ("f", (("vec", ("succ", 0)),), ("fin", 0), (((("cons", "a", "xs"),), FIRST),)))
        self.assertEqual(case_tree(program, "f"), ("take", 0))
        program = program_of(V, ("f", (("vec", ("succ", ("zero",))),), ("fin", 0), (
            ((("cons", "a", ("cons", "b", "xs")),), FIRST), ((("cons", "a", NIL),), FIRST))))
        self.assertEqual(case_tree(program, "f"), ("take", 1))
        self.assertEqual(case_tree_by(program, "f", (0,)), ("take", 1))

    def test_makers_without_inputs_have_no_branch(self):
        program = program_of(COUNTED, ("f", (("two", 0),), ("two", 0), (((("low",),), ("low",)), (("a",), "a"))))
        self.assertEqual(case_tree(program, "f"), ("look", (0,), (("low", ("take", 0)), ("next", ("take", 1)))))
        program = program_of(COUNTED, ("f", (("two", ("succ", 0)),), ("two", 0), (
            ((("low",),), ("low",)), (("a",), ("low",)))))
        self.assertEqual(case_tree(program, "f"), ("take", 1))

    def test_orders(self):
        for order in itertools.permutations(range(3)):
            tree = case_tree_by(CROSS, "f", order)
            # It looks first at the argument that comes first.
            self.assertEqual(tree[1], (order[0],))
            self.assertTrue(same(tree, plain_tree_by(CROSS, "f", order)))
        self.assertEqual(case_tree_by(CROSS, "f", (2, 0, 1)), (
            "look", (2,), (
                ("o", ("look", (0,), (
                    ("o", ("look", (1,), (("o", ("miss",)), ("s", ("take", 1))))), ("s", ("take", 0))))),
                ("s", ("look", (0,), (
                    ("o", ("look", (1,), (("o", ("take", 2)), ("s", ("take", 1))))), ("s", ("take", 0))))))))

    def test_the_least_of_several_places(self):
        two = ("put", "a", ("put", "b", "c"))
        program = program_of(PLAIN, ("f", (("list", 0), NAT), NAT, (
            ((two, "d"), ZERO), ((("put", ("s", "a"), "b"), "d"), ZERO), (("a", S[:1] + ("d",)), ZERO))))
        tree = case_tree_by(program, "f", (0, 1))
        self.assertEqual(tree[1], (0,))
        below = dict(tree[2])["put"]
        self.assertEqual(below[1], (0, 0))
        self.assertEqual(dict(below[2])["s"], ("look", (0, 1), (("end", ("take", 1)), ("put", ("take", 0)))))
        self.assertEqual(case_tree_by(program, "f", (1, 0))[1], (1,))

    def test_useless_clauses_are_looked_for_while_they_live(self):
        # The second clause takes nothing, but it is alive, and has a maker.
        program = plain((S, "b"), ("a", S), ("a", "b"))
        self.assertEqual(case_tree_by(program, "f", (1, 0)), (
            "look", (1,), (("o", ("look", (0,), (("o", ("take", 2)), ("s", ("take", 0))))),
                           ("s", ("look", (0,), (("o", ("take", 1)), ("s", ("take", 0))))))))
        useless = plain((S, "b"), (("s", "a"), S[:1] + ("b",)), ("a", "b"))
        self.assertEqual(case_tree_by(useless, "f", (1, 0)), (
            "look", (1,), (("o", ("look", (0,), (("o", ("take", 2)), ("s", ("take", 0))))),
                           ("s", ("look", (0,), (("o", ("take", 2)), ("s", ("take", 0))))))))

    def test_by_the_words(self):
        kinds = {}
        programs = KNOWN + [some_program(seed) for seed in range(168)] + [split_program(seed) for seed in range(60)]
        for number, program in enumerate(programs):
            for function in program[1]:
                orders = list(itertools.permutations(range(len(function[1]))))
                order = orders[number % len(orders)]
                wanted = plain_tree_by(program, function[0], order)
                self.assertTrue(same(case_tree_by(program, function[0], order), wanted), (program, order))
                self.assertIs(check_tree(program, function[0], wanted), True)
                tree = case_tree(program, function[0])
                self.assertTrue(is_right_case_tree(program, function[0], tree), (program, tree))
                self.assertIs(check_tree(program, function[0], tree), True)
                for part in trees_in(wanted):
                    kinds[part[0]] = kinds.get(part[0], 0) + 1
        self.assertGreater(min(kinds.values()), 40)
        self.assertEqual(len(kinds), 4)

    def test_the_same_clauses_with_other_indices(self):
        # Behind low and high the same clauses are left, with the same makers: but low leaves no other value.
        signature = SHARED[:2] + (SHARED[2][:2] + (("third", "sel", ("s", 0), ()),) + SHARED[2][4:6],)
        program = program_of(signature, ("f", (("sel", 0), ("val", 0)), ("val", 0), (
            ((("third",), ("up", "a")), "a"), (("b", ("any",)), ("any",)), (("b", "c"), "c"))))
        self.assertTrue(is_program(program))
        look = ("look", (1,), (("any", ("take", 1)), ("up", ("take", 2))))
        third = ("look", (1,), (("any", ("take", 1)), ("up", ("take", 0))))
        wanted = ("look", (0,), (("low", ("take", 1)), ("high", look), ("third", third)))
        self.assertEqual(case_tree_by(program, "f", (0, 1)), wanted)
        self.assertIs(check_tree(program, "f", wanted), True)
        for low, high in [(look, look), (("take", 1), ("take", 1)), (look, ("take", 1))]:
            wrong = ("look", (0,), (("low", low), ("high", high), ("third", third)))
            self.assertIs(check_tree(program, "f", wrong), False)

    def test_shared_indices_by_the_words(self):
        kinds = {}
        for seed in range(150):
            program = shared_program(seed)
            self.assertTrue(is_program(program))
            orders = list(itertools.permutations(range(len(program[1][0][1]))))
            wanted = plain_tree_by(program, "f", orders[seed % len(orders)])
            if len(trees_in(wanted)) > 60:
                continue
            self.assertTrue(same(case_tree_by(program, "f", orders[seed % len(orders)]), wanted), program)
            self.assertIs(check_tree(program, "f", wanted), True)
            tree = case_tree(program, "f")
            self.assertTrue(is_right_case_tree(program, "f", tree), (program, tree))
            for part in trees_in(wanted):
                kinds[part[0]] = kinds.get(part[0], 0) + 1
        self.assertGreater(min(kinds.values()), 100)

    def test_trees_tell_what_covers_tell(self):
        for seed in range(96):
            program = some_program(seed)
            for function in program[1]:
                ends = [part[0] for part in trees_in(case_tree(program, function[0]))]
                self.assertEqual("miss" in ends, not is_covered(program, function[0]))

    def test_large_ones_end_soon(self):
        # Five clauses that ask for different places: the tree has many thousand leaves, of which most are the same.
        program = wide_program()
        self.assertTrue(is_program(program))
        for order in [(0, 1, 2), (2, 0, 1)]:
            tree = case_tree_by(program, "f", order)
            self.assertGreater(most_looks(tree), 15)
            self.assertIs(check_tree(program, "f", tree), True)


def distinct(patterns):
    """Return patterns with different variables."""
    names = list("abcdefghijklmnopqrstuvwxyz")

    def named(part):
        return names.pop(0) if type(part) is str else part[:1] + tuple(named(below) for below in part[1:])

    return tuple(named(part) for part in patterns)


def wide_program():
    """Return a program in which each of 5 clauses has makers where no other one has."""
    t = ("t", ("o",))
    signature = ((("o", 0),), ("t",), tuple((word, "t", ("o",), ()) for word in "abcd") + (
        ("m", "t", ("o",), (t, t, t)), ("n", "t", ("o",), (t,))))
    rows = []
    for k in range(5):
        inside = [("m", ("a",), "v", ("b",)) if n == k % 3 else "v" for n in range(3)]
        rows.append(distinct(tuple(("m",) + tuple(inside) if n == k // 2 else "v" for n in range(3))))
    return (signature, (("f", (t, t, t), t, tuple((row, ("a",)) for row in rows)),))


class Reading(unittest.TestCase):
    def test_known_ones(self):
        self.assertEqual(run_tree(TREE, (vector(1),)), 0)
        self.assertEqual(run_tree(TREE, (vector(4),)), 1)
        self.assertEqual(looked_at(TREE, (vector(1),)), [(0,), (0, 1)])
        self.assertEqual(most_looks(TREE), 2)
        self.assertEqual(run_tree(("take", 3), (vector(1),)), 3)
        self.assertEqual(looked_at(("take", 3), (vector(1),)), [])
        self.assertEqual(most_looks(("take", 3)), 0)
        self.assertEqual(most_looks(("never",)), 0)
        self.assertEqual(most_looks(("miss",)), 0)
        self.assertIsNone(run_tree(("miss",), (vector(1),)))
        self.assertEqual(looked_at(("miss",), (vector(1),)), [])

    def test_other_orders(self):
        tree = case_tree_by(CROSS, "f", (2, 1, 0))
        self.assertEqual(looked_at(tree, (ZERO, nat(3), ZERO))[0], (2,))
        self.assertIsNone(run_tree(tree, (ZERO, ZERO, ZERO)))
        self.assertEqual(looked_at(tree, (ZERO, ZERO, ZERO)), [(2,), (1,), (0,)])
        self.assertEqual(run_tree(tree, (nat(1), nat(1), nat(1))), 0)
        self.assertEqual(run_tree(tree, (ZERO, nat(2), nat(1))), 1)
        self.assertEqual(most_looks(tree), 3)
        self.assertEqual(most_looks(("look", (0,), (("o", ("miss",)), ("s", tree)))), 4)

    def test_deep_places(self):
        tree = case_tree_by(LISTS, "without", (1, 0))
        values = (("put", nat(1), ("put", nat(2), ("end",))), ("there", ("here",)))
        self.assertEqual(run_tree(tree, values), 1)
        self.assertEqual(looked_at(tree, values), [(1,)])
        tree = case_tree(TOGETHER, "both")
        self.assertEqual(run_tree(tree, (ZERO, ZERO)), 2)
        self.assertEqual(run_tree(tree, (ZERO, nat(1))), 1)

    def test_what_is_returned_is_new(self):
        found = looked_at(TREE, (vector(1),))
        found.clear()
        self.assertEqual(looked_at(TREE, (vector(1),)), [(0,), (0, 1)])

    def test_all_small_inputs(self):
        tried = 0
        programs = [P, SUMS, LISTS, TURNS, TOGETHER, CLOSED, CROSS] + [some_program(seed) for seed in range(72)]
        programs += [split_program(seed) for seed in range(24)]
        for program in programs:
            for function in program[1]:
                if max(len(values_up_to(program[0], 3)[family]) for family, index in function[1]) > 25:
                    continue
                trees = [case_tree_by(program, function[0], order)
                         for order in itertools.permutations(range(len(function[1])))]
                trees.append(case_tree(program, function[0]))
                for values in inputs_up_to(program[0], function, 3)[:120]:
                    wanted = plain_first(function, values)
                    for tree in trees:
                        self.assertEqual(run_tree(tree, values), wanted)
                        self.assertEqual(first_clause(program, function[0], values), wanted)
                        self.check_looks(tree, values)
                        tried += 1
        self.assertGreater(tried, 3000)

    def check_looks(self, tree, values):
        places = looked_at(tree, values)
        self.assertIs(type(places), list)
        self.assertEqual(len(set(places)), len(places))
        self.assertLessEqual(len(places), most_looks(tree))
        for place in places:
            self.assertEqual(tree[:2], ("look", place))
            part = values[place[0]]
            for number in place[1:]:
                part = part[number + 1]
            tree = dict(tree[2])[part[0]]
        self.assertNotEqual(tree[0], "look")

    def test_most_looks_by_the_words(self):
        def plainly(tree):
            return 1 + max([plainly(below) for word, below in tree[2]]) if tree[0] == "look" else 0

        for seed in range(60):
            program = some_program(seed)
            for function in program[1]:
                tree = case_tree(program, function[0])
                self.assertEqual(most_looks(tree), plainly(tree))

    def test_bounded_numbers(self):
        program = program_of(V, ("f", (("fin", ("succ", ("succ", ("zero",)))),), ("fin", 0), (
            ((("more", ("more", "a")),), FIRST), ((("more", "a"),), FIRST), ((FIRST,), FIRST))))
        tree = case_tree(program, "f")
        self.assertEqual(tree, ("look", (0,), (("first", ("take", 2)), ("more", ("take", 1)))))
        self.assertEqual(run_tree(tree, (bounded(1),)), 1)


if __name__ == "__main__":
    unittest.main()
