"""What the document says over several parts."""

import itertools
import random
import unittest

from casefamilies.answers import answer, check_answer, has_solution
from casefamilies.bodies import faults
from casefamilies.casetrees import case_tree, case_tree_by, looked_at, most_looks, run_tree
from casefamilies.console import Console
from casefamilies.covers import cover_paper, is_covered, reach_paper
from casefamilies.descent import all_fall, check_descent, descent_paper
from casefamilies.evaluation import run, step, typed_call
from casefamilies.models import is_model
from casefamilies.programs import first_clause, is_program
from casefamilies.signatures import after
from casefamilies.soundness import is_sound
from casefamilies.splits import check_cover, check_reach
from casefamilies.storing import choices, restored, stored, texts_of
from casefamilies.texts import read_expression, read_goal, read_program, write_expression, write_goal, write_program
from casefamilies.treechecks import check_tree
from casefamilies.values import family_of, is_value
from casefamilies.workbook import Workbook
from drafts import P
from plain_goals import plain_solutions
from samples import NAMED, V, lively_signature, random_goal, random_signature, same, structure_mutants
from systems import KNOWN, expression_for, falling_program, some_program, split_program


def goals(many):
    found = []
    for seed in range(many):
        signature = (NAMED + [random_signature(seed), lively_signature(seed)] * 8)[seed % 24]
        found.append((signature, random_goal(random.Random(seed), signature, 3)))
    return found


class NeverBothWords(unittest.TestCase):
    def test_answers(self):
        full = 0
        for signature, goal in goals(160):
            found = answer(signature, goal)
            self.assertIs(check_answer(signature, goal, found), True)
            if found[0] == "empty":
                indices = tuple((variable, term) for variable, term in enumerate([("zero",)] * 4))
                for values in itertools.product(*[[(maker[0],) for maker in signature[2] if not maker[3]]] * len(goal)):
                    self.assertIs(check_answer(signature, goal, ("full", indices, values)), False)
                continue
            full += 1
            # No right model lets a goal fail that has a solution.
            for model in some_models(signature):
                self.assertIs(is_model(signature, model), True)
                self.assertIs(check_answer(signature, goal, ("empty", model)), False)
        self.assertGreater(full, 60)

    def test_covers_and_reaches(self):
        for program in KNOWN + [some_program(seed) for seed in range(48)]:
            for function in program[1]:
                word = function[0]
                papers = [cover_paper(program, word)]
                papers += [reach_paper(program, word, k) for k in range(len(function[3]))]
                inputs = [paper[1] for paper in papers if paper[0] in ("missing", "used")]
                trees = [paper[1] for paper in papers if paper[0] in ("covered", "useless")]
                right = {paper[0] for part in inputs + trees for paper in [("covered", part), ("missing", part)]
                         if check_cover(program, word, paper)}
                self.assertEqual(right, {papers[0][0]})
                for k in range(len(function[3])):
                    right = {paper[0] for part in inputs + trees for paper in [("used", part), ("useless", part)]
                             if check_reach(program, word, k, paper)}
                    self.assertEqual(right, {papers[k + 1][0]})

    def test_descents(self):
        for program in KNOWN + [falling_program(seed) for seed in range(80)]:
            word, found = descent_paper(program)
            other = {"falls": "circle", "circle": "falls"}[word]
            self.assertIs(check_descent(program, (word, found)), True)
            self.assertIs(check_descent(program, (other, found)), False)
            for mutant in structure_mutants(found)[:60]:
                self.assertIs(check_descent(program, (other, mutant)), False)


def some_models(signature):
    """Return right models of a signature: those of other goals, and those in which all families have all states."""
    found = []
    for seed in range(6):
        paper = answer(signature, random_goal(random.Random(seed), signature, 2))
        found += [paper[1]] if paper[0] == "empty" else []
    for n in (1, 3):
        tables = tuple(tuple(k % n for k in range(n ** arity)) for word, arity in signature[0])
        found.append((n, tables, tuple(tuple(range(n)) for family in signature[1])))
    return found


class ThereAndBack(unittest.TestCase):
    def test_stored_values_come_back(self):
        tried = 0
        for signature, goal in goals(72):
            for values in plain_solutions(signature, goal, 3)[:12]:
                self.assertEqual(restored(signature, goal, stored(signature, goal, values)), values)
                tried += 1
            for n in range(3):
                for text in texts_of(signature, goal, n)[:10]:
                    values = restored(signature, goal, text)
                    self.assertTrue(all(is_value(signature, value) for value in values))
                    self.assertEqual([family_of(signature, value) for value in values], [part[0] for part in goal])
                    self.assertEqual(stored(signature, goal, values), text)
        self.assertGreater(tried, 100)

    def test_texts_are_read_back(self):
        for program in KNOWN + [some_program(seed) for seed in range(24)]:
            self.assertTrue(same(read_program(write_program(program)), program))
            for function in program[1]:
                goal = function[1] + (function[2],)
                self.assertTrue(same(read_goal(program[0], write_goal(goal)), goal))
                for patterns, body in function[3]:
                    for expression in patterns + (body,):
                        self.assertTrue(same(read_expression(write_expression(expression)), expression))

    def test_choices_lead_to_solutions(self):
        for signature, goal in goals(96):
            if goal:
                found = choices(signature, goal)
                self.assertEqual(bool(found), has_solution(signature, goal))
                for word in found:
                    self.assertIs(has_solution(signature, after(signature, goal, word)), True)

    def test_an_undo_leads_back(self):
        book = Workbook(P)
        book.ask("q", (("vec", 0),))
        before = [book.program(), book.questions(), book.answer_to("q"), book.cover_of("place")]
        for deed in [lambda: book.add_maker(("wild", "vec", 0, ())), lambda: book.drop_function("place"),
                     lambda: book.set_function(P[1][0][:3] + ((),)), lambda: book.ask("r", ()),
                     lambda: book.forget("q")]:
            deed()
            book.undo()
            self.assertTrue(same([book.program(), book.questions(), book.answer_to("q"), book.cover_of("place")],
                                 before))


class Programs(unittest.TestCase):
    def test_all_parts_agree(self):
        sound = 0
        for program in KNOWN + [split_program(seed) for seed in range(60)] + [some_program(seed) for seed in range(60)]:
            covered = all(is_covered(program, function[0]) for function in program[1])
            self.assertIs(is_sound(program), covered and all_fall(program) and faults(program) == [])
            sound += is_sound(program)
            console = Console(program)
            self.assertEqual(console.enter("sound"), ["yes" if is_sound(program) else "no"])
            self.assertEqual("\n".join(console.enter("show")), write_program(program))
            for function in program[1]:
                self.assertEqual(console.enter("cover " + function[0]), [cover_paper(program, function[0])[0]])
        self.assertGreater(sound, 15)

    def test_runs_of_the_console(self):
        for seed, program in enumerate(KNOWN + [split_program(seed) for seed in range(30)]):
            rng = random.Random(seed)
            console = Console(program)
            for _ in range(6):
                expression = expression_for(rng, program)
                found = console.enter("run " + write_expression(expression) + " 20")[0]
                if found != "error BadText":
                    self.assertEqual(found.split(" ")[0], run(program, expression, 20)[0])

    def test_clauses_trees_and_steps_agree(self):
        for program in KNOWN + [split_program(seed) for seed in range(40)]:
            for function in program[1]:
                word = function[0]
                tree = case_tree(program, word)
                for values in plain_solutions(program[0], function[1], len(function[1]) + 3)[:60]:
                    self.assertIs(typed_call(program, word, values), True)
                    self.assertEqual(run_tree(tree, values), first_clause(program, word, values))
                    self.assertLessEqual(len(looked_at(tree, values)), most_looks(tree))
                    stuck = first_clause(program, word, values) is None
                    self.assertIs(step(program, (word, *values)) is None, stuck)
                    if stuck:
                        self.assertIs(check_cover(program, word, ("missing", values)), True)

    def test_the_greatest_end_soon(self):
        # Three functions of three arguments with six clauses each, patterns of height 3, and many calls.
        for seed in range(6):
            program = greatest_program(seed)
            self.assertTrue(is_program(program))
            is_sound(program)
            for function in program[1]:
                for order in [(0, 1, 2), (2, 1, 0)]:
                    tree = case_tree_by(program, function[0], order)
                    self.assertIs(check_tree(program, function[0], tree), True)
                self.assertIs(check_cover(program, function[0], cover_paper(program, function[0])), True)
            self.assertIs(check_descent(program, descent_paper(program)), True)
            self.assertEqual(read_program(write_program(program)), program)
            self.assertEqual(Workbook(program).program(), program)


def greatest_program(seed):
    """Return a program as large as point 0.2 names, over makers with 3 variables each."""
    rng = random.Random(seed)
    signature = ((("z", 0), ("s", 1), ("p", 2)), ("f", "g", "h"), (
        ("a", "f", 0, ()), ("b", "g", ("z",), ()), ("c", "h", ("s", 0), ()),
        ("d", "f", ("p", 0, 1), (("f", 0), ("g", 2), ("h", ("s", 1)))),
        ("e", "g", ("s", 0), (("g", 0), ("f", ("p", 1, 2)), ("f", 2))),
        ("i", "h", ("p", 0, 1), (("h", 1), ("f", 0), ("g", 2))),
        ("j", "g", 0, (("h", ("s", 0)), ("g", 1), ("f", 2))), ("k", "f", ("s", 0), (("f", 0), ("f", 1), ("f", 2)))))
    types = {"one": (("f", 0), ("g", 0), ("h", 1)), "two": (("g", ("s", 0)), ("g", 1), ("f", ("p", 0, 1))),
             "three": (("h", 0), ("h", 0), ("f", ("s", ("s", 0))))}
    leaves = {"f": ("a",), "g": ("b",), "h": ("c",)}

    def pattern(family, height, names):
        if height == 0 or rng.random() < 0.35:
            return names.pop(0)
        maker = rng.choice([maker for maker in signature[2] if maker[1] == family])
        return (maker[0],) + tuple(pattern(part[0], height - 1, names) for part in maker[3])

    functions = []
    for word, family in [("one", "f"), ("two", "g"), ("three", "h")]:
        clauses = []
        for _ in range(6):
            names = ["v" + a + b for a in "abcdefghij" for b in "abcdefghij"]
            patterns = tuple(pattern(part[0], 3, names) for part in types[word])
            calls = [(called,) + tuple(rng.choice([leaves[part[0]]] + [
                pattern for pattern, own in zip(patterns, types[word]) if own[0] == part[0]]) for part in types[called])
                for called in ("one", "two", "three")]
            bodies = {"f": ("d", *calls), "g": calls[1], "h": calls[2]}
            clauses.append((patterns, bodies[family]))
        functions.append((word, types[word], (family, 0), tuple(clauses)))
    return (signature, tuple(functions))


class NewThings(unittest.TestCase):
    def test_programs_and_papers_are_not_changed(self):
        for program in KNOWN:
            text = repr(program)
            for function in program[1]:
                tree = case_tree(program, function[0])
                told = repr(tree)
                check_tree(program, function[0], tree)
                most_looks(tree)
                self.assertEqual(repr(tree), told)
            paper = descent_paper(program)
            told = repr(paper)
            check_descent(program, paper)
            self.assertEqual((repr(program), repr(paper)), (text, told))

    def test_what_is_returned_has_no_class_of_its_own(self):
        plain = (int, str, tuple, bool, type(None))
        for program in KNOWN:
            found = [descent_paper(program), write_program(program)]
            for function in program[1]:
                found += [case_tree(program, function[0]), cover_paper(program, function[0])]
            for thing in found:
                waiting = [thing]
                while waiting:
                    part = waiting.pop()
                    self.assertIn(type(part), plain)
                    waiting.extend(part if type(part) is tuple else ())
        self.assertIs(type(texts_of(V, (("vec", 0),), 1)), list)


if __name__ == "__main__":
    unittest.main()
