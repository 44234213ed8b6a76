"""The check of case trees (point 15.1)."""

import itertools
import unittest

from casefamilies.casetrees import case_tree, case_tree_by, run_tree
from casefamilies.treechecks import check_tree
from drafts import P
from plain_trees import is_right_case_tree, trees_in
from samples import ODDITIES, agreeable_mutants, structure_mutants
from systems import KNOWN, PLAIN, SUMS, VOID, program_of, some_program, split_program
from test_casetrees import CROSS, S, TREE, plain

ONE, TWO, MISS, NEVER = ("take", 0), ("take", 1), ("miss",), ("never",)


class Checks(unittest.TestCase):
    def test_papers_of_others(self):
        self.assertIs(check_tree(P, "place", TREE), True)
        # A look that is not needed is right where a clause that is alive has a maker.
        needless = plain((S, "b"), ("a", S), ("c", "d"))
        first = ("look", (1,), (("o", ONE), ("s", ONE)))
        after_s = [ONE, first]
        after_o = ("look", (1,), (("o", ("take", 2)), ("s", TWO)))
        for tree in after_s:
            self.assertIs(check_tree(needless, "f", ("look", (0,), (("o", after_o), ("s", tree)))), True)
        # Where no clause that is alive has a maker, it is not.
        for tree in (ONE, TWO, ("take", 2)):
            useless = ("look", (0, 0), (("o", tree), ("s", tree)))
            self.assertIs(check_tree(needless, "f", ("look", (0,), (("o", after_o), ("s", useless)))), False)
        self.assertIs(check_tree(plain(("a",), (S,)), "f", ("take", 0)), True)
        # The second clause takes nothing, but it is alive.
        self.assertIs(check_tree(plain(("a",), (S,)), "f", ("look", (0,), (("o", ONE), ("s", ONE)))), True)
        self.assertIs(check_tree(plain(("a",)), "f", ("look", (0,), (("o", ONE), ("s", ONE)))), False)

    def test_all_orders(self):
        for order in itertools.permutations(range(3)):
            self.assertIs(check_tree(CROSS, "f", case_tree_by(CROSS, "f", order)), True)

    def test_wrong_trees(self):
        inner = TREE[2][0][1]
        wrong = [ONE, TWO, MISS, NEVER, inner, ("look", (0,), ()), ("look", (0,), (("cons", ONE),)),
                 ("look", (0,), (("nil", MISS),) + TREE[2]), ("look", (0,), (("nil", NEVER),) + TREE[2]),
                 ("look", (0,), TREE[2] * 2), ("look", (0,), (("cons", inner, ()),)), ("look", (0,), (("cons",),)),
                 ("look", (0,), (inner,)), ("look", (0,), [("cons", inner)]), ("look", (0,), (["cons", inner],)),
                 ("look", (0,), {"cons": inner}), ("look", (0,)), ("look", TREE[2], (0,)), TREE + ((),),
                 ("look", (0,), TREE[2][0]), ("look", (0,), inner), ("look", (0,), None), ("look",), (),
                 ("look", (0,), 0), ("look", (0,), ""), ("look", (0,), "cons"), ("look", 0, TREE[2]),
                 ("look", "", TREE[2]), TREE[1:],
                 ("look", (0,), (("none", inner),)), ("Look",) + TREE[1:], ("split",) + TREE[1:], [*TREE],
                 ("look", (0,), ((("cons",), inner),)), ("look", (0,), ((0, inner),)), ("take",), ("take", 0, 0)]
        for tree in wrong:
            self.assertIs(check_tree(P, "place", tree), False, tree)

        def with_inner(tree):
            return ("look", (0,), (("cons", tree),))

        right = (("nil", ONE), ("cons", TWO))
        self.assertIs(check_tree(P, "place", with_inner(("look", (0, 1), right))), True)
        for branches in [right[::-1], right[:1], right[1:], (("nil", TWO), ("cons", ONE)),
                         (("nil", ONE), ("cons", ONE)),
                         (("nil", MISS), ("cons", TWO)), (("nil", NEVER), ("cons", TWO)), right + right[1:],
                         (("nil", ("take", False)), ("cons", TWO)), (("nil", ONE), ("cons", ("take", True))),
                         (("nil", ("take", -2)), ("cons", TWO)), (("nil", ("take", 2)), ("cons", TWO)),
                         (("nil", ("take", "0")), ("cons", TWO)), (("nil", ("take", 0.0)), ("cons", TWO)),
                         (("nil", ("take", None)), ("cons", TWO)), (("nil", ["take", 0]), ("cons", TWO)),
                         (("nil", "take"), ("cons", TWO)), (("nil", 0), ("cons", TWO)), (("cons", ONE), ("nil", TWO)),
                         (("nil\n", ONE), ("cons", TWO)), (("nil", (("take",), 0)), ("cons", TWO))]:
            self.assertIs(check_tree(P, "place", with_inner(("look", (0, 1), branches))), False, branches)
        for place in [(0,), (0, 0), (), (1,), (0, 2), (0, -1), (0, 1, 0), (0, 1, 1), (0, True), (False, 1), [0, 1],
                      (0, 1.0), (0, "1"), 0, None, "01", ((0, 1),), (0, 10 ** 20), (-1, 1), (0, None)]:
            self.assertIs(check_tree(P, "place", with_inner(("look", place, right))), False, place)

    def test_never_and_miss(self):
        for word in ("lost", "clash"):
            self.assertIs(check_tree(VOID, word, NEVER), True)
            for tree in [MISS, ONE, ("never", 0), ("never", ()), ["never"], "never", ("look", (0,), ()), (), None,
                         ("Never",), ("never", "never"), (("never",),), ("look", (0,), (("up", NEVER),))]:
                self.assertIs(check_tree(VOID, word, tree), False, tree)
        empty = program_of(PLAIN, ("f", (("nat", ("any",)),), ("nat", ("any",)), ()))
        self.assertIs(check_tree(empty, "f", MISS), True)
        for tree in [NEVER, ONE, ("miss", 0), ["miss"], "miss", ("look", (0,), (("o", MISS), ("s", MISS))), None]:
            self.assertIs(check_tree(empty, "f", tree), False)
        # A function with inputs has no branch that no input comes to.
        self.assertIs(check_tree(VOID, "half", ONE), True)
        self.assertIs(check_tree(VOID, "half", ("look", (0,), (("upper", ONE),))), True)
        self.assertIs(check_tree(VOID, "half", ("look", (0,), (("none", NEVER), ("upper", ONE)))), False)

    def test_earlier_clauses_come_first(self):
        program = plain((S,), ("a",))
        tree = ("look", (0,), (("o", TWO), ("s", ONE)))
        self.assertIs(check_tree(program, "f", tree), True)
        for wrong in [TWO, ("look", (0,), (("o", TWO), ("s", TWO))), ("look", (0,), (("o", ONE), ("s", ONE)))]:
            self.assertIs(check_tree(program, "f", wrong), False)

    def test_values_of_no_form(self):
        for value in ODDITIES:
            self.assertIs(check_tree(P, "place", value), False, repr(value))
            self.assertIs(check_tree(VOID, "lost", value), False, repr(value))
        for tree in [TREE, case_tree(SUMS, "plus"), case_tree(CROSS, "f")]:
            program, word = (P, "place") if tree == TREE else (SUMS, "plus") if len(tree[2][0][1]) == 2 else (CROSS,
                                                                                         "f")
            self.assertIs(check_tree(program, word, tree), True)
            for mutant in agreeable_mutants(tree):
                self.assertIs(check_tree(program, word, mutant), False)
        deep = MISS
        for _ in range(95):
            deep = ("look", (0,), (("cons", deep),))
        self.assertIs(check_tree(P, "place", deep), False)

    def test_changed_papers_by_the_words(self):
        tried = {True: 0, False: 0}
        programs = KNOWN + [some_program(seed) for seed in range(36)] + [split_program(seed) for seed in range(12)]
        for program in programs:
            for function in program[1]:
                tree = case_tree(program, function[0])
                if len(trees_in(tree)) > 12:
                    continue
                for mutant in structure_mutants(tree)[:80] + place_mutants(tree)[:40]:
                    wanted = is_right_case_tree(program, function[0], mutant)
                    self.assertIs(check_tree(program, function[0], mutant), wanted, repr((program, mutant)))
                    tried[wanted] += 1
        self.assertGreater(tried[False], 3000)

    def test_a_wrong_part_among_the_same_ones(self):
        # Equal trees stand at many places: each of them must be right where it stands.
        program = plain((S, "b", "c"), ("a", ("s", "b"), "c"), ("a", "b", ("s", "c")), ("a", "b", "c"))
        for order in itertools.permutations(range(3)):
            tree = case_tree_by(program, "f", order)
            self.assertIs(check_tree(program, "f", tree), True)
            for mutant in leaf_mutants(tree):
                self.assertIs(check_tree(program, "f", mutant), False)

    def test_right_trees_take_what_clauses_take(self):
        for mutant in structure_mutants(TREE):
            if check_tree(P, "place", mutant):
                self.assertEqual(run_tree(mutant, (("cons", ("first",), ("nil",)),)), 0)


def place_mutants(tree):
    """Return trees with another place at one of the looks."""
    if tree[0] != "look":
        return []
    found = [("look", place, tree[2]) for place in [(0,), (1,), (0, 0), (0, 1), tree[1] + (0,), tree[1][:-1]]
             if place != tree[1]]
    for k, (word, below) in enumerate(tree[2]):
        found += [("look", tree[1], tree[2][:k] + ((word, part),) + tree[2][k + 1:]) for part in place_mutants(below)]
    return found


def leaf_mutants(tree):
    """Return trees with another leaf in the place of one."""
    if tree[0] != "look":
        return [part for part in [ONE, TWO, ("take", 2), ("take", 3), MISS, NEVER] if part != tree]
    found = []
    for k, (word, below) in enumerate(tree[2]):
        found += [("look", tree[1], tree[2][:k] + ((word, part),) + tree[2][k + 1:]) for part in leaf_mutants(below)]
    return found


if __name__ == "__main__":
    unittest.main()
