"""Workbooks: deeds, kept papers, and what was there before (part 17)."""

import random
import unittest

from casefamilies.answers import check_answer
from casefamilies.errors import (
    BadFunction, BadMaker, BadProgram, BadQuestion, FamilyError, Full, InUse, NothingToUndo, Taken, Unknown)
from casefamilies.programs import is_program
from casefamilies.splits import check_cover
from casefamilies.values import derivation
from casefamilies.workbook import Workbook
from drafts import P, random_function
from plain_goals import is_right_answer
from plain_programs import is_plain_program, is_right_cover
from reference import is_plain_type, is_plain_word
from samples import EMPTY, NUMBERS, ODDITIES, V, random_goal, random_maker, same
from systems import KNOWN, LISTS, PLAIN, SUMS, ZERO, program_of, some_program, split_program

PLACE = P[1][0]
CONS = V[2][3]
SHORT = (V[:2] + (V[2][:3],), ())
VEC = (("vec", ("succ", 0)),)


def papers(book):
    """Return all that can be asked of a workbook, but not what it has kept."""
    answers = [(word, goal, book.answer_to(word)) for word, goal in book.questions()]
    return (book.program(), answers, [(function[0], book.cover_of(function[0])) for function in book.program()[1]])


def kept(book):
    return (book.kept_answers(), book.kept_covers())


class Making(unittest.TestCase):
    def test_new_ones(self):
        book = Workbook(P)
        self.assertEqual(book.program(), P)
        self.assertEqual(book.questions(), [])
        self.assertEqual(kept(book), ([], []))
        self.assertIs(check_cover(P, "place", book.cover_of("place")), True)
        with self.assertRaises(NothingToUndo):
            book.undo()
        for program in KNOWN:
            book = Workbook(program)
            for function in program[1]:
                self.assertIs(check_cover(program, function[0], book.cover_of(function[0])), True)

    def test_without_makers_or_functions(self):
        book = Workbook(((NUMBERS, ("f",), ()), ()))
        book.ask("q", (("f", 0),))
        self.assertEqual(book.answer_to("q")[0], "empty")
        self.assertEqual(book.add_maker(("m", "f", 0, ())), ["q"])
        self.assertEqual(book.drop_maker("m"), ["q"])
        self.assertIsNone(book.set_function(("g", (("f", 0),), ("f", 0), ())))
        self.assertEqual(book.cover_of("g")[0], "covered")
        self.assertEqual(Workbook((EMPTY, ())).program(), (EMPTY, ()))

    def test_values_that_are_no_programs(self):
        wrong = ODDITIES + [V, P[0], list(P), (V,), (V, None), (V, [PLACE]), (V, PLACE), P + ((),), (V, (PLACE, PLACE)),
                            (V[:2] + (V[2][:3],), (PLACE,)), (V, (PLACE[:3],)), ((), ())]
        for value in wrong:
            with self.assertRaises(BadProgram):
                Workbook(value)


class Makers(unittest.TestCase):
    def test_known_ones(self):
        book = Workbook(SHORT)
        book.ask("q", VEC)
        self.assertEqual(book.answer_to("q")[0], "empty")
        self.assertEqual(book.add_maker(CONS), ["q"])
        self.assertEqual(book.program(), (V, ()))
        self.assertEqual(book.answer_to("q")[0], "full")
        self.assertEqual(book.drop_maker("first"), ["q"])
        self.assertEqual(book.program()[0][2], V[2][1:])

    def test_the_words_that_change(self):
        book = Workbook(SHORT)
        for word, goal in [("d", VEC), ("a", (("fin", 0),)), ("c", (("vec", 0),)), ("b", (("vec", 0), ("fin", 0))),
                           ("e", (("fin", ("zero",)),)), ("f", ())]:
            book.ask(word, goal)
        self.assertEqual([book.answer_to(word)[0] for word in "abcdef"],
                         ["full", "empty", "full", "empty", "empty", "full"])
        self.assertEqual(book.add_maker(CONS), ["b", "d"])
        # Answers with values stay as they are; a model that the new maker leads out of does not.
        self.assertIn("a", book.kept_answers())
        self.assertIn("c", book.kept_answers())
        self.assertIn("f", book.kept_answers())
        self.assertNotIn("b", book.kept_answers())
        self.assertEqual(book.drop_maker("first"), ["a", "b", "d"])
        self.assertEqual(book.add_maker(("first", "fin", ("succ", 0), ())), ["a", "b", "d"])
        self.assertEqual([maker[0] for maker in book.program()[0][2]], ["more", "nil", "cons", "first"])

    def test_values_that_are_no_makers(self):
        book = Workbook(P)
        book.ask("q", VEC)
        before = papers(book)
        deep = ("succ", ("succ", ("succ", ("succ", ("succ", ("succ", 0))))))
        for maker in ODDITIES + [CONS, ("place", "fin", 0, ()), ("cons", "fin", 0, ()), ("new", "none", 0, ()),
                                 ("new", "fin", ("succ", ("succ", 0)), ()), ("new", "fin", 0), ["new", "fin", 0, ()],
                                 ("new", "fin", 1, ()), ("New", "fin", 0, ()), ("new", "fin", 0, (("fin", deep),)),
                                 ("new", "fin", True, ()), ("new", "fin", 0, [("fin", 0)]), V, P, V[2],
                                 ("new", "fin", 0, (("fin", 0),) * 4), ("new", "fin", ("none",), ())]:
            with self.assertRaises(BadMaker):
                book.add_maker(maker)
            self.assertEqual(papers(book), before)
        for k in range(4):
            book.add_maker(("n" + "abcd"[k], "fin", 0, ()))
        with self.assertRaises(BadMaker):
            book.add_maker(("ninth", "fin", 0, ()))
        self.assertEqual(len(book.program()[0][2]), 8)

    def test_makers_that_cannot_go(self):
        book = Workbook(P)
        for word in ["cons", "nil", "first", "more"]:
            with self.assertRaises(InUse):
                book.drop_maker(word)
        for word in ["none", "place", "fin", "zero", "", "Cons", "cons ", "q"]:
            with self.assertRaises(Unknown):
                book.drop_maker(word)
        self.assertEqual(book.program(), P)
        book.drop_function("place")
        self.assertEqual(book.drop_maker("cons"), [])
        with self.assertRaises(Unknown):
            book.drop_maker("cons")


class Functions(unittest.TestCase):
    def test_known_ones(self):
        book = Workbook((V, ()))
        self.assertIsNone(book.set_function(PLACE))
        self.assertEqual(book.program(), P)
        short = PLACE[:3] + (PLACE[3][:1],)
        self.assertIsNone(book.set_function(short))
        self.assertEqual(book.program(), (V, (short,)))
        self.assertEqual(book.cover_of("place")[0], "missing")
        other = ("other", (("fin", 0),), ("fin", 0), ((("a",), "a"),))
        book.set_function(other)
        self.assertEqual(book.program(), (V, (short, other)))
        book.set_function(PLACE)
        self.assertEqual(book.program(), (V, (PLACE, other)))
        self.assertIsNone(book.drop_function("place"))
        self.assertEqual(book.program(), (V, (other,)))
        with self.assertRaises(Unknown):
            book.cover_of("place")

    def test_values_that_are_no_functions(self):
        book = Workbook(P)
        before = papers(book)
        for function in ODDITIES + [("place",), ("place", 0), PLACE[:3], PLACE + ((),), list(PLACE),
                                    ("cons",) + PLACE[1:],
                                    PLACE[:3] + ((PLACE[3][0],) * 7,), ("new", (), ("fin", 0), ()), (PLACE,), P,
                                    (["place"],) + PLACE[1:], PLACE[:2] + (("vec", 0), PLACE[3]), PLACE[:1],
                                    ("new", (("fin", 0),), ("fin", 0), ((("a",), ("none", "a")),)),
                                    ("New",) + PLACE[1:],
                                    (("place",),) + PLACE[1:], ("place",) + PLACE[1:3] + ([],), (0,) + PLACE[1:]]:
            with self.assertRaises(BadFunction):
                book.set_function(function)
            self.assertEqual(papers(book), before)
            self.assertEqual(kept(book), ([], []))
        with self.assertRaises(NothingToUndo):
            book.undo()

    def test_no_more_than_four(self):
        book = Workbook((V, ()))
        for word in ["a", "b", "c", "d"]:
            book.set_function((word, (("fin", 0),), ("fin", 0), ()))
        with self.assertRaises(BadFunction):
            book.set_function(("e", (("fin", 0),), ("fin", 0), ()))
        book.set_function(("c", (("vec", 0),), ("fin", 0), ()))
        self.assertEqual([function[0] for function in book.program()[1]], ["a", "b", "c", "d"])

    def test_functions_that_others_call(self):
        book = Workbook(SUMS)
        with self.assertRaises(InUse):
            book.drop_function("plus")
        # With another number of arguments, or another family as its result, the others do not go with it.
        with self.assertRaises(BadFunction):
            book.set_function(("plus", (("nat", ("any",)),), ("nat", ("any",)), ()))
        with self.assertRaises(BadFunction):
            book.set_function(("plus",) + SUMS[1][0][1:2] + (("list", 0), ()))
        book.set_function(SUMS[1][0][:3] + ((),))
        self.assertEqual(book.cover_of("plus")[0], "missing")
        self.assertEqual(book.kept_covers(), ["sum", "times"])
        book.drop_function("times")
        book.drop_function("sum")
        # A function that calls itself alone can go.
        book.set_function(SUMS[1][0])
        book.drop_function("plus")
        self.assertEqual(book.program(), (PLAIN, ()))
        for word in ["plus", "none", "put", "nat", "any", "", "Plus"]:
            with self.assertRaises(Unknown):
                book.drop_function(word)

    def test_the_unknown_before_what_is_in_use(self):
        book = Workbook(SUMS)
        with self.assertRaises(Unknown):
            book.drop_function("o")
        with self.assertRaises(Unknown):
            book.drop_maker("plus")


class Questions(unittest.TestCase):
    def test_known_ones(self):
        book = Workbook(P)
        self.assertIsNone(book.ask("q", VEC))
        self.assertIsNone(book.ask("b", ()))
        self.assertEqual(book.questions(), [("b", ()), ("q", VEC)])
        self.assertEqual(book.answer_to("b"), ("full", (), ()))
        self.assertIs(check_answer(V, VEC, book.answer_to("q")), True)
        self.assertIsNone(book.forget("q"))
        self.assertEqual(book.questions(), [("b", ())])
        for word in ["q", "none", "place", "cons", ""]:
            with self.assertRaises(Unknown):
                book.answer_to(word)
            with self.assertRaises(Unknown):
                book.forget(word)
        # A name may be that of a function or a maker.
        book.ask("place", VEC)
        book.ask("cons", VEC)
        self.assertEqual(book.answer_to("place")[0], "full")

    def test_bad_questions(self):
        book = Workbook(P)
        for word in ODDITIES + ["", "Q", "q ", "abcdefghijklm", "q1", ("q",)]:
            if not is_plain_word(word):
                with self.assertRaises(BadQuestion):
                    book.ask(word, VEC)
        for goal in ODDITIES + [(("vec", ("none",)),), (("none", 0),), VEC[0], list(VEC), (["vec", 0],),
                                (("vec", True),),
                                (("vec", -1),), (("vec",),), (("vec", 0, 0),), "none", (("vec", ("succ",)),)]:
            if goal != ():
                with self.assertRaises(BadQuestion):
                    book.ask("q", goal)
        self.assertEqual(book.questions(), [])
        with self.assertRaises(NothingToUndo):
            book.undo()

    def test_which_error_comes_first(self):
        book = Workbook(P)
        for word in ["a", "b", "c", "d", "e", "f"]:
            book.ask(word, VEC)
        for word, goal, error in [("g", VEC, Full), ("a", VEC, Taken), ("a", (("none", 0),), BadQuestion),
                                  ("g", (("none", 0),), BadQuestion), ("G", VEC, BadQuestion), ("f", (), Taken)]:
            with self.assertRaises(error):
                book.ask(word, goal)
        book.forget("c")
        book.ask("g", ())
        self.assertEqual([word for word, goal in book.questions()], ["a", "b", "d", "e", "f", "g"])
        with self.assertRaises(Full):
            book.ask("c", ())


class Keeping(unittest.TestCase):
    def test_known_ones(self):
        book = Workbook(P)
        book.ask("q", VEC)
        self.assertEqual(kept(book), ([], []))
        old, cover = book.answer_to("q"), book.cover_of("place")
        # A maker of another family leaves all as it is right.
        self.assertEqual(book.add_maker(("last", "fin", ("zero",), ())), [])
        self.assertEqual(kept(book), (["q"], ["place"]))
        self.assertEqual((book.answer_to("q"), book.cover_of("place")), (old, cover))
        # With one more maker of vectors, the tree of splits lacks a branch.
        self.assertEqual(book.add_maker(("wild", "vec", 0, ())), [])
        self.assertEqual(kept(book), (["q"], []))
        self.assertEqual(book.cover_of("place")[0], "missing")
        book.ask("r", ())
        book.forget("q")
        self.assertEqual(kept(book), (["q"], []))
        book.set_function(PLACE)
        self.assertEqual(kept(book), (["r"], ["place"]))
        book.drop_function("place")
        self.assertEqual(kept(book), (["r"], []))
        book.set_function(PLACE)
        self.assertEqual(kept(book), (["r"], []))
        book.undo()
        self.assertEqual(kept(book), ([], []))
        book.drop_maker("wild")
        self.assertEqual(kept(book), (["r"], []))

    def test_refused_deeds_change_nothing_of_it(self):
        book = Workbook(P)
        book.ask("q", VEC)
        book.add_maker(("last", "fin", ("zero",), ()))
        for deed in [lambda: book.add_maker(None), lambda: book.drop_maker("cons"), lambda: book.drop_maker("none"),
                     lambda: book.set_function(None), lambda: book.drop_function("none"), lambda: book.ask("q", VEC),
                     lambda: book.forget("none"), lambda: book.answer_to("none"), lambda: book.cover_of("none")]:
            with self.assertRaises(FamilyError):
                deed()
            self.assertEqual(kept(book), (["q"], ["place"]))

    def test_undo_empties_it(self):
        for undone in ["ask", "forget", "maker"]:
            book = Workbook(P)
            book.ask("q", VEC)
            book.add_maker(("last", "fin", ("zero",), ()))
            if undone == "ask":
                book.ask("r", ())
            if undone == "forget":
                book.forget("q")
            self.assertEqual(kept(book), (["q"], ["place"]))
            book.undo()
            self.assertEqual(kept(book), ([], []))
            book.ask("s", ())
            self.assertEqual(kept(book), ([], []))

    def test_an_undo_that_fails_keeps_it(self):
        book = Workbook(P)
        book.set_function(PLACE)
        book.undo()
        book.set_function(PLACE)
        self.assertEqual(kept(book), ([], ["place"]))
        book.undo()
        with self.assertRaises(NothingToUndo):
            book.undo()
        self.assertEqual(kept(book), ([], []))

    def test_what_is_returned_is_new(self):
        book = Workbook(P)
        book.ask("q", VEC)
        book.set_function(PLACE)
        for asked in [book.questions, book.kept_answers, book.kept_covers]:
            asked().append(None)
            asked().clear()
            self.assertEqual(len(asked()), 1)
        book.add_maker(("wild", "fin", ("zero",), ())).append("q")
        self.assertEqual(book.questions(), [("q", VEC)])


class Undo(unittest.TestCase):
    def test_known_ones(self):
        book = Workbook(SHORT)
        book.ask("q", VEC)
        before = papers(book)
        self.assertEqual(book.add_maker(CONS), ["q"])
        self.assertIsNone(book.undo())
        self.assertEqual(papers(book), before)
        book.undo()
        self.assertEqual(papers(book), ((SHORT[0], ()), [], []))
        with self.assertRaises(NothingToUndo):
            book.undo()

    def test_refused_deeds_are_not_taken_back(self):
        book = Workbook(P)
        book.ask("q", VEC)
        before = papers(book)
        book.ask("r", VEC)
        for deed in [lambda: book.add_maker(None), lambda: book.ask("r", ()), lambda: book.drop_maker("cons")]:
            with self.assertRaises(FamilyError):
                deed()
        book.undo()
        self.assertEqual(papers(book), before)

    def test_ask_and_forget(self):
        book = Workbook(P)
        book.ask("q", VEC)
        book.ask("r", ())
        book.forget("q")
        book.undo()
        self.assertEqual([word for word, goal in book.questions()], ["q", "r"])
        book.undo()
        self.assertEqual(book.questions(), [("q", VEC)])
        book.forget("q")
        book.undo()
        book.undo()
        self.assertEqual(book.questions(), [])

    def test_deeds_after_an_undo(self):
        book = Workbook(P)
        book.ask("a", VEC)
        book.ask("b", VEC)
        book.undo()
        book.ask("c", VEC)
        book.undo()
        self.assertEqual(book.questions(), [("a", VEC)])
        book.undo()
        self.assertEqual(book.questions(), [])

    def test_a_deed_that_changes_nothing_is_one(self):
        book = Workbook(P)
        book.set_function(PLACE)
        book.undo()
        with self.assertRaises(NothingToUndo):
            book.undo()

    def test_two_workbooks(self):
        one, two = Workbook(P), Workbook(P)
        goal = (("vec", 0),)
        one.ask("q", goal)
        two.ask("q", goal)
        before = papers(two)
        one.add_maker(("wild", "vec", 0, ()))
        one.drop_function("place")
        one.forget("q")
        self.assertEqual(papers(two), before)
        two.undo()
        self.assertEqual(one.questions(), [])
        self.assertEqual(one.program()[1], ())


class Chains(unittest.TestCase):
    """Many deeds in a row, compared with what the words of part 17 say."""

    def deed(self, rng, book):
        """Return a name and arguments of a deed."""
        program = book.program()
        signature = program[0]
        names = [maker[0] for maker in signature[2]] + [function[0] for function in program[1]]
        asked = [word for word, goal in book.questions()]
        kind = rng.choice(["add_maker", "drop_maker", "set_function", "drop_function", "ask", "ask", "forget", "undo"])
        if kind == "add_maker":
            word = rng.choice(["new", "newer", "newest"] + names)
            return kind, (random_maker(rng, word, signature[0], signature[1], 3),)
        if kind == "set_function":
            word = rng.choice(["f", "g"] + [function[0] for function in program[1]])
            whole = random_function(rng, signature, word, rng.randint(1, 2), 3)
            olds = [function for function in program[1] if function[0] == word]
            if olds and rng.random() < 0.6:
                clauses = olds[0][3]
                k = rng.randint(0, len(clauses))
                whole = olds[0][:3] + (clauses[:k] + clauses[k + 1:],)
            return kind, (rng.choice([whole, whole, whole, None, whole[:3]]),)
        if kind == "ask":
            return kind, (rng.choice(["q", "r", "s", "Q"]), random_goal(rng, signature, 2, 3))
        if kind == "forget":
            return kind, (rng.choice(asked + ["none"]),)
        return kind, () if kind == "undo" else (rng.choice(names + ["none"]),)

    def wanted(self, book, kind, arguments):
        """Return the error that a deed must raise, or None, and the program after it."""
        signature, functions = book.program()
        words = [word for word, goal in book.questions()]
        if kind == "add_maker":
            after = (signature[:2] + (signature[2] + arguments,), functions)
            return (None if is_plain_program(after) else BadMaker), after
        if kind == "set_function":
            value = arguments[0]
            names = [function[0] for function in functions]
            at = names.index(value[0]) if type(value) is tuple and value and value[0] in names else len(names)
            after = (signature, functions[:at] + (value,) + functions[at + 1:])
            return (None if is_plain_program(after) else BadFunction), after
        if kind == "drop_maker":
            left = tuple(maker for maker in signature[2] if maker[0] != arguments[0])
            after = (signature[:2] + (left,), functions)
            if len(left) == len(signature[2]):
                return Unknown, None
            return (None if is_plain_program(after) else InUse), after
        if kind == "drop_function":
            left = tuple(function for function in functions if function[0] != arguments[0])
            if len(left) == len(functions):
                return Unknown, None
            return (None if is_plain_program((signature, left)) else InUse), (signature, left)
        if kind == "ask":
            word, goal = arguments
            if not is_plain_word(word) or not all(is_plain_type(signature[0], signature[1], part) for part in goal):
                return BadQuestion, None
            return (Taken if word in words else Full if len(words) > 5 else None), book.program()
        return (None if arguments[0] in words else Unknown), book.program()

    def check_papers(self, book, before, kind, returned):
        """Test the papers after one of the first four deeds."""
        program = book.program()
        olds = {word: paper for word, goal, paper in before[1]}
        stay = [word for word, goal, paper in before[1] if is_right_answer(program[0], goal, paper, derivation)]
        self.assertEqual(book.kept_answers(), sorted(stay))
        changed = []
        for word, goal in book.questions():
            paper = book.answer_to(word)
            self.assertTrue(is_right_answer(program[0], goal, paper, derivation))
            if word in stay:
                self.assertTrue(same(paper, olds[word]))
            if paper[0] != olds[word][0]:
                changed.append(word)
        self.assertEqual(returned, changed if kind in ("add_maker", "drop_maker") else None)
        covers = dict(before[2])
        names = [function[0] for function in program[1]]
        held = [word for word in names if word in covers and is_right_cover(program, word, covers[word])]
        self.assertEqual(book.kept_covers(), sorted(held))
        for word in names:
            self.assertTrue(is_right_cover(program, word, book.cover_of(word)))
            if word in held:
                self.assertTrue(same(book.cover_of(word), covers[word]))

    def test_by_the_words(self):
        counts = {}
        starts = [P, SUMS, LISTS, SHORT, (PLAIN, ())] + [split_program(seed) for seed in range(60)]
        # The signature with 16 profiles takes the plain tests of models too long.
        starts += [some_program(seed) for seed in range(120) if seed % 24 != 6]
        for seed, program in enumerate(starts):
            rng = random.Random(seed)
            book, history, last = Workbook(program), [], ([], [])
            for _ in range(20):
                kind, arguments = self.deed(rng, book)
                before = papers(book)
                if kind == "undo":
                    error, after = (None, None) if history else (NothingToUndo, None)
                else:
                    error, after = self.wanted(book, kind, arguments)
                counts[(kind, error)] = counts.get((kind, error), 0) + 1
                if error is not None:
                    with self.assertRaises(error):
                        getattr(book, kind)(*arguments)
                    self.assertEqual((papers(book), kept(book)), (before, last))
                    continue
                returned = getattr(book, kind)(*arguments)
                if kind == "undo":
                    self.assertTrue(same(papers(book), history.pop()))
                    self.assertEqual(kept(book), ([], []))
                elif kind in ("ask", "forget"):
                    self.assertIsNone(returned)
                    self.assertEqual(kept(book), last)
                    self.check_questions(book, before, kind, arguments)
                    history.append(before)
                else:
                    self.assertEqual(book.program(), after)
                    self.assertTrue(is_program(after))
                    self.check_papers(book, before, kind, returned)
                    history.append(before)
                last = kept(book)
            while history:
                book.undo()
                self.assertTrue(same(papers(book), history.pop()))
            with self.assertRaises(NothingToUndo):
                book.undo()
        self.assertGreater(len(counts), 15)
        self.assertGreater(sum(counts.values()), 3000)

    def check_questions(self, book, before, kind, arguments):
        questions = {word: goal for word, goal, paper in before[1]}
        if kind == "ask":
            questions[arguments[0]] = arguments[1]
            paper = book.answer_to(arguments[0])
            self.assertTrue(is_right_answer(book.program()[0], arguments[1], paper, derivation))
        else:
            del questions[arguments[0]]
        self.assertEqual(book.questions(), sorted(questions.items()))
        self.assertEqual([row for row in before[1] if row[0] != arguments[0]],
                         [row for row in papers(book)[1] if row[0] != arguments[0]])
        self.assertEqual((before[0], before[2]), (papers(book)[0], papers(book)[2]))


class Sharing(unittest.TestCase):
    def test_the_cover_of_a_function_with_new_clauses(self):
        book = Workbook((PLAIN, ()))
        book.set_function(("f", (("nat", ("any",)),), ("nat", ("any",)), ()))
        self.assertEqual(book.cover_of("f")[0], "missing")
        book.set_function(("f", (("nat", ("any",)),), ("nat", ("any",)), ((("a",), ZERO),)))
        self.assertEqual((book.cover_of("f")[0], book.kept_covers()), ("covered", []))
        # A tree that speaks of the first clause is right for a longer function, too.
        book.set_function(("f", (("nat", ("any",)),), ("nat", ("any",)), ((("b",), "b"), (("a",), ZERO))))
        self.assertEqual((book.cover_of("f")[0], book.kept_covers()), ("covered", ["f"]))

    def test_programs_of_others(self):
        for program in [program_of(V, PLACE), P]:
            self.assertEqual(Workbook(program).program(), P)


if __name__ == "__main__":
    unittest.main()
