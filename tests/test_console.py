"""The console (point 18.4)."""

import random
import re
import unittest

from casefamilies.console import Console
from casefamilies.counting import count_values
from casefamilies.errors import BadProgram, FamilyError
from casefamilies.profiles import profile
from casefamilies.programs import function_of
from casefamilies.soundness import is_sound
from casefamilies.workbook import Workbook
from drafts import P
from plain_programs import heads_of, is_plain_expression
from plain_runs import plain_run
from plain_texts import (
    expression_text, goal_text, program_text, read_clause_plainly, read_expression_plainly, read_function_plainly,
    read_goal_over, read_maker_plainly, read_term_plainly)
from reference import is_closed
from samples import EMPTY, ODDITIES, V, random_goal, same
from systems import KNOWN, LISTS, PLAIN, SUMS, expression_for, some_program, split_program
from test_texts import STRANGE, TEXT, changed_texts

BAD = ["error BadText"]
OK = ["ok"]


class PlainConsole:
    """A console by the words of point 18.4, with other readers of texts."""

    def __init__(self, program):
        self.book = Workbook(program)

    def enter(self, line):
        found = re.fullmatch("([a-z]+)(?: (.*))?", line)
        method = getattr(self, "enter_" + found.group(1), None) if found else None
        try:
            result = None if method is None else method(line, found.group(2))
        except FamilyError as error:
            return ["error " + error.__class__.__name__]
        return BAD if result is None else result

    def word(self, rest):
        return rest is not None and re.fullmatch("[a-z]{1,12}", rest) is not None

    def number(self, text, most):
        return text is not None and re.fullmatch("0|[1-9][0-9]?", text) is not None and int(text) <= most

    def enter_maker(self, line, rest):
        maker = read_maker_plainly(line)
        return None if maker is None else [" ".join(["ok"] + self.book.add_maker(maker))]

    def enter_drop(self, line, rest):
        return [" ".join(["ok"] + self.book.drop_maker(rest))] if self.word(rest) else None

    def enter_function(self, line, rest):
        function = read_function_plainly(line)
        return None if function is None else self.book.set_function(function) or OK

    def enter_clause(self, line, rest):
        found = read_clause_plainly(line)
        if found is None:
            return None
        function = function_of(self.book.program(), found[0])
        return self.book.set_function(function[:3] + (function[3] + found[1:],)) or OK

    def enter_remove(self, line, rest):
        return self.book.drop_function(rest) or OK if self.word(rest) else None

    def enter_ask(self, line, rest):
        found = re.fullmatch("([a-z]{1,12}) : (.*)", rest or "")
        goal = read_goal_over(self.book.program()[0], found.group(2)) if found else None
        return None if goal is None else self.book.ask(found.group(1), goal) or OK

    def enter_forget(self, line, rest):
        return self.book.forget(rest) or OK if self.word(rest) else None

    def enter_state(self, line, rest):
        return [self.book.answer_to(rest)[0]] if self.word(rest) else None

    def enter_cover(self, line, rest):
        return [self.book.cover_of(rest)[0]] if self.word(rest) else None

    def enter_profile(self, line, rest):
        signature = self.book.program()[0]
        term = read_term_plainly(rest or "")
        if term is None or not is_closed(signature[0], term):
            return None
        return [" ".join(profile(signature, term))] if profile(signature, term) else ["none"]

    def enter_count(self, line, rest):
        signature = self.book.program()[0]
        parts = (rest or "").split(" ")
        if len(parts) != 2 or not self.number(parts[1], 6):
            return None
        goal = read_goal_over(signature, parts[0])
        return [str(count_values(signature, *goal[0], int(parts[1])))] if goal else None

    def enter_run(self, line, rest):
        program = self.book.program()
        parts = (rest or "").split(" ")
        if len(parts) != 2 or not self.number(parts[1], 60):
            return None
        expression = read_expression_plainly(parts[0])
        heads = heads_of(program, False)
        if type(expression) is not tuple or expression[0] not in heads:
            return None
        names = []
        if not is_plain_expression(heads, heads[expression[0]][0], expression, names) or names:
            return None
        found = plain_run(program, expression, int(parts[1]))
        if found[0] == "value":
            return ["value " + expression_text(found[1]) + " " + str(found[2])]
        return ["more"] if found[0] == "more" else ["stuck " + expression_text((found[1],) + found[2])]

    def enter_sound(self, line, rest):
        return [["no", "yes"][is_sound(self.book.program())]] if rest is None else None

    def enter_show(self, line, rest):
        return program_text(self.book.program()).split("\n") if rest is None else None

    def enter_undo(self, line, rest):
        return self.book.undo() or OK if rest is None else None


class Known(unittest.TestCase):
    def setUp(self):
        self.console = Console(P)

    def check(self, rows):
        for line, wanted in rows:
            found = self.console.enter(line)
            self.assertTrue(same(found, wanted if type(wanted) is list else [wanted]), (line, found))

    def test_programs_alone(self):
        for value in ODDITIES + [V, list(P), (V, None)]:
            with self.assertRaises(BadProgram):
                Console(value)
        Console((EMPTY, ()))

    def test_makers(self):
        self.check([
            ("maker wild : vec(x0)", "ok"), ("cover place", "missing"), ("undo", "ok"), ("cover place", "covered"),
            ("maker deep : fin(succ(x0)) from vec(succ(x1)), fin(x0)", "ok"), ("drop deep", "ok"),
            ("drop deep", "error Unknown"), ("drop cons", "error InUse"), ("drop place", "error Unknown"),
            ("maker cons : vec(x0)", "error BadMaker"), ("maker place : vec(x0)", "error BadMaker"),
            ("maker new : none(x0)", "error BadMaker"), ("maker new : fin(none)", "error BadMaker"),
            ("maker new : fin(zero(x0))", "error BadMaker"), ("maker new : fin(succ)", "error BadMaker"),
            ("maker new : fin(x1)", "error BadMaker"), ("maker new : fin(x999999)", "error BadMaker"),
            ("maker new : fin(succ(succ(x0)))", "error BadMaker"),
            ("maker new : fin(x0) from fin(x0), fin(x0), fin(x0), fin(x0)", "error BadMaker"),
            ("maker new : fin(a(b,c,d,e(f)))", "error BadMaker"),
            ("maker new : fin(x0) from none", BAD), ("maker new : none", BAD), ("maker new : fin(x0) from", BAD),
            ("maker new : fin(x0) from ", BAD), ("maker new : fin(x1000000)", BAD), ("maker new : fin(x00)", BAD),
            ("maker new : fin(zero())", BAD), ("maker new : fin(x0), fin(x0)", BAD), ("maker new: fin(x0)", BAD),
            ("maker new :fin(x0)", BAD), ("maker  new : fin(x0)", BAD), ("maker new : fin(x0) ", BAD),
            (" maker new : fin(x0)", BAD), ("maker New : fin(x0)", BAD), ("maker abcdefghijklm : fin(x0)", BAD),
            ("maker new : abcdefghijklm(x0)", BAD), ("maker new : fin(abcdefghijklm)", BAD), ("maker", BAD),
            ("maker ", BAD), ("maker new", BAD), ("maker new : fin(x0) from fin(x0),fin(x0)", BAD),
            ("maker new : fin", BAD), ("makers new : fin(x0)", BAD), ("maker new : fin(x0)  from fin(x0)", BAD),
            ("drop", BAD), ("drop ", BAD), ("drop  cons", BAD), ("drop cons ", BAD), ("drop Cons", BAD),
            ("drop a b", BAD),
            ("drop abcdefghijklm", BAD), ("drop cons()", BAD), ("drop abcdefghijkl", "error Unknown")])
        self.assertEqual(self.console.enter("show"), TEXT.split("\n"))

    def test_the_words_that_change(self):
        self.console = Console((V[:2] + (V[2][:3],), ()))
        self.check([("ask q : vec(succ(x0))", "ok"), ("ask a : fin(x0), vec(x0)", "ok"), ("ask z : none", "ok"),
                    ("state q", "empty"), ("maker cons : vec(succ(x0)) from fin(succ(x1)), vec(x0)", "ok a q"),
                    ("state q", "full"), ("state z", "full"), ("drop first", "ok a q"), ("state a", "empty"),
                    ("undo", "ok"), ("state a", "full"), ("drop nil", "ok a q"), ("drop more", "ok")])

    def test_functions(self):
        self.check([
            ("function keep : fin(x0), vec(x1) to fin(x0)", "ok"), ("cover keep", "missing"),
            ("clause keep : a, b = a", "ok"), ("cover keep", "covered"), ("clause keep : a, nil() = a", "ok"),
            ("run keep(first(),nil()) 5", "value first() 1"), ("sound", "yes"),
            ("function keep : fin(x0) to fin(x0)", "ok"), ("sound", "no"), ("remove keep", "ok"), ("sound", "yes"),
            ("remove keep", "error Unknown"), ("remove cons", "error Unknown"),
            ("clause keep : a = a", "error Unknown"), ("clause cons : a = a", "error Unknown"),
            ("clause place : a, b = first()", "error BadFunction"), ("clause place : a = a", "error BadFunction"),
            ("clause place : cons(a,a) = first()", "error BadFunction"),
            ("clause place : first() = first()", "error BadFunction"), ("clause place : none() = first()",
                                                                        "error BadFunction"),
            ("clause place : a = none()", "error BadFunction"), ("clause place : place(a) = a", "error BadFunction"),
            ("clause place : a = b", "error BadFunction"), ("function cons : fin(x0) to fin(x0)", "error BadFunction"),
            ("function new : fin(x1) to fin(x0)", "error BadFunction"),
            ("function new : other(x0) to fin(x0)", "error BadFunction"),
            ("function new : fin(other) to fin(x0)", "error BadFunction"),
            ("function new : fin(x0), fin(x0), fin(x0), fin(x0) to fin(x0)", "error BadFunction"),
            ("function new : none to fin(x0)", BAD), ("function new : fin(x0) to none", BAD),
            ("function new : fin(x0)", BAD), ("function new : fin(x0) to fin(x0), fin(x0)", BAD),
            ("function new : fin(x0) to  fin(x0)", BAD), ("function new : to fin(x0)", BAD), ("function", BAD),
            ("function new :  to fin(x0)", BAD), ("function New : fin(x0) to fin(x0)", BAD),
            ("function new : fin(x0) to fin(x0) ", BAD), ("function abcdefghijklm : fin(x0) to fin(x0)", BAD),
            ("function new : fin(x0) to fin(x1000000)", BAD), ("function new : fin(x0) to fin(x01)", BAD),
            ("clause place : = first()", BAD), ("clause place :  = first()", BAD), ("clause place : a = ", BAD),
            ("clause place : a == first()", BAD), ("clause place : a,b = first()", BAD), ("clause", BAD),
            ("clause place : a  = first()", BAD), ("clause place : a = first(),", BAD), ("clause place : a", BAD),
            ("clause place : A = first()", BAD), ("clause place : x0 = first()", BAD),
            ("clause place : abcdefghijklm = first()", BAD), ("clause place : a, = first()", BAD),
            ("clause none : a = a = a", BAD), ("clause place : a = abcdefghijklm()", BAD), ("remove", BAD),
            ("remove ", BAD), ("remove place ", BAD), ("remove Place", BAD), ("remove place place", BAD)])
        self.assertEqual(self.console.enter("show"), TEXT.split("\n"))
        self.check([("clause place : xs = first()", "ok")] * 4 + [("clause place : xs = first()", "error BadFunction")])

    def test_functions_that_others_call(self):
        self.console = Console(SUMS)
        self.check([("remove plus", "error InUse"), ("remove times", "ok"), ("remove plus", "error InUse"),
                    ("remove sum", "ok"), ("remove plus", "ok"), ("undo", "ok"), ("undo", "ok"), ("undo", "ok"),
                    ("undo", "error NothingToUndo"), ("function plus : nat(any) to nat(any)", "error BadFunction")])

    def test_questions(self):
        self.check([
            ("ask q : vec(x0), fin(x0)", "ok"), ("state q", "full"), ("ask q : none", "error Taken"),
            ("ask r : fin(zero)", "ok"), ("state r", "empty"), ("ask none : none", "ok"), ("state none", "full"),
            ("ask a : fin(x7), vec(x999999)", "ok"), ("ask b : none", "ok"), ("ask c : none", "ok"),
            ("ask d : none", "error Full"), ("ask c : none", "error Taken"), ("ask d : other(x0)", BAD),
            ("forget c", "ok"), ("forget c", "error Unknown"), ("state c", "error Unknown"), ("ask d : none", "ok"),
            ("ask e : fin(x1000000)", BAD), ("ask e : fin(x00)", BAD), ("ask e : fin(other)", BAD),
            ("ask e : fin(succ)", BAD), ("ask e : ", BAD), ("ask e :", BAD), ("ask e : none ", BAD), ("ask e", BAD),
            ("ask", BAD), ("ask E : none", BAD), ("ask abcdefghijklm : none", BAD), ("ask  e : none", BAD),
            ("ask e: none", BAD), ("ask e :none", BAD), ("ask e : none, fin(x0)", BAD),
            ("ask e : fin(x0),fin(x0)", BAD),
            ("ask : none", BAD), ("forget", BAD), ("forget ", BAD), ("forget A", BAD), ("forget a ", BAD),
            ("forget other", "error Unknown"), ("state", BAD), ("state ", BAD), ("state Q", BAD), ("state q q", BAD),
            ("state other", "error Unknown"), ("state place", "error Unknown"), ("cover q", "error Unknown"),
            ("cover cons", "error Unknown"), ("cover", BAD), ("cover place ", BAD), ("cover Place", BAD),
            ("cover place", "covered")])

    def test_profiles(self):
        self.check([("profile zero", "vec"), ("profile succ(succ(zero))", "fin vec"), ("profile x0", BAD),
                    ("profile", BAD),
                    ("profile succ(x0)", BAD), ("profile zero()", BAD), ("profile succ", BAD), ("profile other", BAD),
                    ("profile ", BAD), ("profile zero ", BAD), ("profile zero zero", BAD), ("profile  zero", BAD),
                    ("profile succ(zero", BAD), ("profile succ(zero,zero)", BAD), ("profile fin(zero)", BAD)])
        self.console = Console((EMPTY, ()))
        self.check([("profile zero", "none")])

    def test_counts(self):
        self.check([("count vec(succ(zero)) 4", "1"), ("count fin(x0) 6", "1"), ("count fin(x0) 0", "0"),
                    ("count vec(x5) 6", "3"), ("count fin(zero) 1", "0"), ("count fin(x0) 7", BAD),
                    ("count fin(x0) 06", BAD),
                    ("count fin(x0) 00", BAD), ("count fin(x0) -1", BAD), ("count fin(x0)", BAD),
                    ("count fin(x0) ", BAD),
                    ("count fin(x0)  3", BAD), ("count fin(x0) 3 ", BAD), ("count none 3", BAD), ("count", BAD),
                    ("count fin(x0), fin(x0) 3", BAD), ("count other(x0) 3", BAD), ("count fin(other) 3", BAD),
                    ("count fin(x0) a", BAD), ("count fin(x0) 1000000000", BAD), ("count fin(x0) " + "9" * 5000, BAD),
                    ("count fin(x1000000) 3", BAD), ("count fin(x00) 3", BAD), ("count 3", BAD), ("count fin 3", BAD),
                    ("count fin(succ(zero,zero)) 3", BAD), ("count fin(x0) \u0663", BAD), ("count fin(x0) +3", BAD)])

    def test_runs(self):
        two = "cons(first(),cons(first(),nil()))"
        self.check([
            ("run place(cons(first(),nil())) 9", "value first() 1"), ("run first() 0", "value first() 0"),
            ("run place(" + two + ") 2", "value more(first()) 2"), ("run place(" + two + ") 1", "more"),
            ("run place(" + two + ") 0", "more"), ("run place(nil()) 0", "stuck place(nil())"),
            ("run more(place(nil())) 60", "stuck place(nil())"), ("run " + two + " 60", "value " + two + " 0"),
            ("run place(cons(place(nil()),nil())) 9", "stuck place(nil())"), ("run nil() 60", "value nil() 0"),
            ("run nil() 61", BAD), ("run nil() 060", BAD), ("run nil() 01", BAD), ("run nil()", BAD),
            ("run nil() ", BAD),
            ("run nil 1", BAD), ("run xs 1", BAD), ("run place(xs) 1", BAD), ("run place() 1", BAD),
            ("run place(first()) 1", BAD), ("run place(nil(),nil()) 1", BAD), ("run other() 1", BAD),
            ("run cons(nil(),nil()) 1", BAD), ("run more(place(first())) 1", BAD), ("run zero() 1", BAD), ("run", BAD),
            ("run  nil() 1", BAD), ("run nil()  1", BAD), ("run nil() 1 ", BAD), ("run place(nil())1", BAD),
            ("run nil() x", BAD), ("run nil() -1", BAD), ("run cons(first(), nil()) 1", BAD), ("run 1", BAD),
            ("run more(more(more(more(more(more(more(place(" + two + ")))))))) 9",
             "value " + "more(" * 8 + "first()" + ")" * 8 + " 2")])
        # An expression of any family may stand there, also a value with no index.
        self.check([("run cons(first(),cons(more(more(first())),nil())) 3",
                     "value cons(first(),cons(more(more(first())),nil())) 0")])

    def test_words_alone(self):
        self.check([("sound", "yes"), ("sound ", BAD), ("sounds", BAD), ("sound x", BAD), ("show ", BAD),
                    ("show place", BAD),
                    ("undo", "error NothingToUndo"), ("undo ", BAD), ("undo x", BAD), ("", BAD), (" ", BAD),
                    ("other", BAD),
                    ("index new 0", BAD), ("family new", BAD), ("index zero 0", BAD), ("Sound", BAD), (" sound", BAD),
                    ("help", BAD), ("enter", BAD), ("program", BAD), ("kept", BAD), ("\u00e9", BAD), ("sound\t", BAD)])
        self.assertEqual(self.console.enter("show"), TEXT.split("\n"))

    def test_undo(self):
        self.check([("ask q : none", "ok"), ("maker wild : fin(x0)", "ok"), ("remove place", "ok"), ("undo", "ok"),
                    ("cover place", "covered"), ("forget q", "ok"), ("undo", "ok"), ("state q", "full"),
                    ("drop x", "error Unknown"),
                    ("undo", "ok"), ("drop wild", "error Unknown"), ("undo", "ok"), ("state q", "error Unknown"),
                    ("undo", "error NothingToUndo")])

    def test_what_is_returned_is_new(self):
        self.console.enter("show").clear()
        self.assertEqual(self.console.enter("show"), TEXT.split("\n"))
        self.console.enter("sound").append("x")
        self.assertEqual(self.console.enter("sound"), ["yes"])
        for line in ["show", "sound", "undo", "", "count fin(x0) 3"]:
            self.assertIs(type(self.console.enter(line)), list)

    def test_a_program_that_is_entered_line_by_line(self):
        console = Console(((V[0], V[1], ()), ()))
        for line in TEXT.split("\n")[4:]:
            self.assertEqual(console.enter(line), OK)
        self.assertEqual(console.enter("show"), TEXT.split("\n"))
        self.assertEqual(console.enter("sound"), ["yes"])
        for line in TEXT.split("\n")[4:]:
            self.assertEqual(console.enter("undo"), OK)
        self.assertEqual(console.enter("undo"), ["error NothingToUndo"])


class Chains(unittest.TestCase):
    def line(self, rng, program, lines):
        """Return a line that could be right."""
        signature = program[0]
        makers = [maker[0] for maker in signature[2]] + ["o"]
        words = [function[0] for function in program[1]] + ["f"]
        goal = random_goal(rng, signature, 2, 3)
        one = goal_text(goal[:1]) if goal else "other(x0)"
        expression = expression_for(rng, program)
        return rng.choice([
            rng.choice(lines), rng.choice(lines), rng.choice(lines), "drop " + rng.choice(makers),
            "remove " + rng.choice(words), "undo", "show", "sound", "ask " + rng.choice("pq") + " : " + goal_text(goal),
            "ask " + rng.choice("rst") + " : " + goal_text(goal), "forget " + rng.choice("pqr"),
            "state " + rng.choice("pqrst"),
            "cover " + rng.choice(words), "profile " + one.partition("(")[2][:-1], f"count {one} {rng.randint(0, 4)}",
            "profile " + rng.choice(signature[0])[0], "run " + expression_text(expression) + f" {rng.randint(0, 5)}",
            "function f : " + one + " to " + one, "clause " + rng.choice(words) + " : a = a",
            "clause " + rng.choice(words) + " : a, b = b", "maker o : " + one])

    def test_by_the_words(self):
        kinds = {}
        programs = KNOWN + [STRANGE] + [some_program(seed) for seed in range(30)]
        programs += [split_program(seed) for seed in range(20)]
        for seed, program in enumerate(programs):
            rng = random.Random(seed)
            console, plain = Console(program), PlainConsole(program)
            lines = program_text(program).split("\n")
            for _ in range(60):
                line = self.line(rng, plain.book.program(), lines)
                if rng.random() < 0.3:
                    others = changed_texts(line, "abnx(),: 012", rng, 1)
                    line = rng.choice([text for text in others if "\n" not in text])
                wanted = plain.enter(line)
                self.assertTrue(same(console.enter(line), wanted), (program, line, wanted))
                kind = (line.partition(" ")[0], wanted[0].partition(" ")[2] if wanted[0][:5] == "error" else "right")
                kinds[kind] = kinds.get(kind, 0) + 1
        commands = ["maker", "drop", "function", "clause", "remove", "ask", "forget", "state", "cover", "profile",
                    "count", "run", "sound", "show", "undo"]
        for command in commands:
            self.assertIn((command, "right"), kinds)
        for kind in [("maker", "BadMaker"), ("drop", "InUse"), ("drop", "Unknown"), ("function", "BadFunction"),
                     ("clause", "BadFunction"), ("clause", "Unknown"), ("remove", "Unknown"), ("remove", "InUse"),
                     ("ask", "Taken"), ("forget", "Unknown"), ("state", "Unknown"), ("cover", "Unknown"),
                     ("undo", "NothingToUndo"), ("run", "BadText"), ("profile", "BadText"), ("count", "BadText")]:
            self.assertIn(kind, kinds)

    def test_the_same_as_a_workbook(self):
        console, book = Console(LISTS), Workbook(LISTS)
        console.enter("ask q : list(x0)")
        book.ask("q", (("list", 0),))
        self.assertEqual(console.enter("state q"), [book.answer_to("q")[0]])
        self.assertEqual(console.enter("drop here"), ["error InUse"])
        self.assertEqual(console.enter("show"), program_text(book.program()).split("\n"))
        self.assertEqual(Console((PLAIN, ())).enter("run s(s(o())) 0"), ["value s(s(o())) 0"])


if __name__ == "__main__":
    unittest.main()
