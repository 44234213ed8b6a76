"""Texts of goals, expressions and programs (points 18.1 to 18.3)."""

import random
import unittest

from casefamilies.errors import BadText
from casefamilies.programs import is_program
from casefamilies.texts import read_expression, read_goal, read_program, write_expression, write_goal, write_program
from drafts import P
from plain_texts import (
    expression_text, goal_text, program_text, read_expression_plainly, read_goal_over, read_program_plainly)
from samples import EMPTY, NAMED, V, number, random_goal, same
from systems import KNOWN, PLAIN, some_program, split_program

TEXT = """index zero 0
index succ 1
family fin
family vec
maker first : fin(succ(x0))
maker more : fin(succ(x0)) from fin(x0)
maker nil : vec(zero)
maker cons : vec(succ(x0)) from fin(succ(x1)), vec(x0)
function place : vec(succ(x0)) to fin(succ(x0))
clause place : cons(a,nil()) = first()
clause place : cons(a,cons(b,ys)) = more(place(cons(b,ys)))"""
# Words that look like variables, like the word for no types, and that mean several things.
ODD = ((("x", 0), ("none", 1), ("xx", 2)), ("none", "x", "to"), (
    ("x", "none", ("x",), ()), ("none", "x", ("none", 0), (("none", 0), ("x", ("xx", 0, 1)))),
    ("from", "to", 0, (("to", ("none", ("x",))),))))
STRANGE = (ODD, (("to", (("none", ("x",)), ("x", 0)), ("none", ("xx", 0, 1)), (
    (("x", "none"), "x"), ((("x",), ("none", "x", "to")), ("to", ("x",), "to")))),
    ("index", (("to", 0),), ("to", 0), ())))


def changed_texts(text, signs, rng, many):
    """Return texts with a sign put in, taken out, changed or doubled, and parts exchanged."""
    found = []
    for _ in range(many):
        k = rng.randrange(len(text) + 1)
        sign = rng.choice(signs)
        found += [text[:k] + sign + text[k:], text[:k] + text[k + 1:], text[:k] + sign + text[k + 1:],
                  text[:k] + text[k:k + 1] * 2 + text[k + 1:],
                  text[:k] + text[k + 1:k + 2] + text[k:k + 1] + text[k + 2:]]
    return found + [text + " ", " " + text, text + "\n", "\n" + text, text + ",", text.upper(), text + text]


class Goals(unittest.TestCase):
    def test_known_ones(self):
        for goal, text in [((), "none"), ((("fin", 0),), "fin(x0)"), ((("vec", ("zero",)),), "vec(zero)"),
                           ((("fin", ("succ", 12)), ("vec", number(2))), "fin(succ(x12)), vec(succ(succ(zero)))"),
                           ((("fin", 999999),), "fin(x999999)")]:
            self.assertEqual(write_goal(goal), text)
            self.assertTrue(same(read_goal(V, text), goal))
        self.assertEqual(write_goal((("fin", 1000000),)), "fin(x1000000)")
        self.assertEqual(read_goal(ODD, "none(x)"), (("none", ("x",)),))
        self.assertEqual(read_goal(ODD, "none(x0)"), (("none", 0),))
        self.assertEqual(read_goal(ODD, "none"), ())
        self.assertEqual(read_goal(ODD, "x(xx(x,x1)), to(none(x))"),
                         (("x", ("xx", ("x",), 1)), ("to", ("none", ("x",)))))

    def test_texts_of_no_goal(self):
        for text in ["", " ", "fin", "fin()", "fin(x)", "fin(x0", "fin x0", "fin(x0))", "fin(x0),vec(x0)", "fin(x0) ",
                     " fin(x0)", "fin(x0),  vec(x0)", "fin(x0) , vec(x0)", "fin(x0), ", ", fin(x0)", "fin(x0), none",
                     "none, fin(x0)", "none ", "None", "fin(x00)", "fin(x01)", "fin(x1000000)", "fin(x-1)", "fin(X0)",
                     "other(x0)", "fin(other)", "fin(zero())", "fin(succ)", "fin(succ(x0,x1))", "fin(zero(x0))",
                     "fin(succ(x0),x1)", "fin(0)", "fin(x0)\n", "\nfin(x0)", "fin(x0), vec(x0)\n", "fin(succ( x0))",
                     "Fin(x0)", "fin((x0))", "(fin(x0))", "fin(x0)vec(x0)", "fin(x\u0661)", "fin(x\u00b2)", "fin(x0)\t",
                     "fin(succ(x0)", "fin(x1_0)", "fin(x+1)", "none(x0)", "finn(x0)", "fin[x0]", "x0", "fin(x0 )"]:
            with self.assertRaises(BadText):
                read_goal(V, text)

    def test_by_the_words(self):
        tried = {True: 0, False: 0}
        for seed in range(120):
            rng = random.Random(seed)
            signature = (NAMED + [ODD])[seed % 9]
            goal = random_goal(rng, signature, 3)
            text = write_goal(goal)
            self.assertEqual(text, goal_text(goal))
            self.assertTrue(same(read_goal(signature, text), goal))
            for other in changed_texts(text, "abcfinvecsuxz()(), 0123\n", rng, 12):
                tried[self.check(signature, other)] += 1
        self.assertGreater(min(tried.values()), 100)

    def check(self, signature, text):
        wanted = read_goal_over(signature, text)
        if wanted is None:
            with self.assertRaises(BadText):
                read_goal(signature, text)
            return False
        self.assertTrue(same(read_goal(signature, text), wanted), text)
        self.assertEqual(write_goal(wanted), text)
        return True


class Expressions(unittest.TestCase):
    def test_known_ones(self):
        for expression, text in [("a", "a"), (("nil",), "nil()"), (("cons", "a", "xs"), "cons(a,xs)"),
                                 (("f", ("g",), ("h", "b", ("k",)), "c"), "f(g(),h(b,k()),c)"),
                                 ("abcdefghijkl", "abcdefghijkl"), (("none", "none"), "none(none)")]:
            self.assertEqual(write_expression(expression), text)
            self.assertTrue(same(read_expression(text), expression))
        # Neither the names nor the numbers of parts are looked at.
        self.assertEqual(read_expression("f(" + "f()," * 20 + "f())"), ("f",) + (("f",),) * 21)

    def test_texts_of_no_expression(self):
        for text in ["", " ", "(", ")", "()", ",", "a,b", "a ", " a", "a()b", "a(", "a)", "a(b", "a(b,)", "a(,b)",
                     "a(,)",
                     "a(b c)", "a(b, c)", "a(b)(c)", "a((b))", "(a)", "A", "a1", "x0", "a(x0)", "abcdefghijklm",
                     "a(b))",
                     "a( )", "a(b())c", "a\n", "\na", "a(b\n)", "a()()", "a-b", "a_b", "a.b", "\u00e9", "a(\u00e9)",
                     "abcdefghijklm()", "f(abcdefghijklm)", "a(b;c)", "a[b]", "a(b,,c)", "a()\t", "0", "a(0)"]:
            with self.assertRaises(BadText):
                read_expression(text)

    def test_deep_and_long_ones(self):
        text = "a(" * 60 + "a" + ")" * 60
        self.assertEqual(write_expression(read_expression(text)), text)
        with self.assertRaises(BadText):
            read_expression(text + ")")
        with self.assertRaises(BadText):
            read_expression(text[:-1])
        long = "f(" + ",".join(["abc(d)"] * 14000) + ")"
        self.assertEqual(write_expression(read_expression(long)), long)
        for bad in ["a" * 100000, "a," * 50000, "f(" + "a," * 49999, "f(" + "a" * 99000 + ")", " " * 100000,
                    "()" * 50000]:
            with self.assertRaises(BadText):
                read_expression(bad)

    def test_by_the_words(self):
        tried = {True: 0, False: 0}

        def drawn(rng, height):
            word = "".join(rng.choice("abin") for _ in range(rng.choice([1, 1, 2, 12])))
            if height == 0 or rng.random() < 0.3:
                return word
            return (word,) + tuple(drawn(rng, height - 1) for _ in range(rng.randint(0, 3)))

        for seed in range(150):
            rng = random.Random(seed)
            expression = drawn(rng, 3)
            text = write_expression(expression)
            self.assertEqual(text, expression_text(expression))
            self.assertTrue(same(read_expression(text), expression))
            for other in changed_texts(text, "abin()(),, 0\n", rng, 12):
                wanted = read_expression_plainly(other)
                tried[wanted is not None] += 1
                if wanted is None:
                    with self.assertRaises(BadText):
                        read_expression(other)
                else:
                    self.assertTrue(same(read_expression(other), wanted))
                    self.assertEqual(write_expression(wanted), other)
        self.assertGreater(min(tried.values()), 1000)


class Programs(unittest.TestCase):
    def test_known_ones(self):
        self.assertEqual(write_program(P), TEXT)
        self.assertTrue(same(read_program(TEXT), P))
        self.assertEqual(write_program((EMPTY, ())), "index zero 0\nfamily none")
        self.assertTrue(same(read_program("index zero 0\nfamily none"), (EMPTY, ())))
        text = "\n".join(TEXT.split("\n")[:9])
        self.assertTrue(same(read_program(text), (V, (P[1][0][:3] + ((),),))))

    def test_strange_words(self):
        self.assertTrue(is_program(STRANGE))
        text = write_program(STRANGE)
        self.assertEqual(text, program_text(STRANGE))
        self.assertTrue(same(read_program(text), STRANGE))
        self.assertIn("maker from : to(x0) from to(none(x))", text.split("\n"))
        self.assertIn("function to : none(x), x(x0) to none(xx(x0,x1))", text.split("\n"))
        self.assertIn("clause to : x(), none(x,to) = to(x(),to)", text.split("\n"))

    def test_texts_of_no_program(self):
        lines = TEXT.split("\n")
        wrong = ["", " ", "\n", TEXT + "\n", "\n" + TEXT, TEXT + " ", " " + TEXT, TEXT.replace("\n", "\n\n", 1),
                 TEXT.replace("\n", "\r\n"), TEXT.replace("\n", " \n", 1), "index zero 0", "family fin", lines[8],
                 "index zero 0\nfamily none\nfamily none", "index zero 1\nfamily none", "index zero 3\nfamily none",
                 "index zero 00\nfamily none", "index zero -0\nfamily none", "index zero\nfamily none",
                 "index zero 0 \nfamily none", "index  zero 0\nfamily none", "index zero 0\nfamily", "family none",
                 "index zero 0\nfamily none\nother", "index zero 0\nfamily none\n", "Index zero 0\nfamily none",
                 "index zero 0000000000\nfamily none", "index zero " + "9" * 5000 + "\nfamily none",
                 "index zero 0\nfamily none\nmaker m : none(zero) from none",
                 "index zero 0\nfamily none\nfunction f : none to none(x0)",
                 "index zero 0\nfamily none\nfunction f : none(x0) to none",
                 "family none\nindex zero 0", "\n".join(lines[1:]), "\n".join(lines[:1] + lines[2:]),
                 "\n".join(lines[:8] + lines[9:]), "\n".join(lines[:4]) + "\n" + lines[8]]
        # Each pair of lines in another order, where the text would still tell the same.
        for k in range(len(lines) - 1):
            moved = lines[:k] + [lines[k + 1], lines[k]] + lines[k + 2:]
            if read_program_plainly("\n".join(moved)) is None:
                wrong.append("\n".join(moved))
        for old, new in [(" : ", ":"), (" : ", " :  "), (" from ", " from  "), (" from ", "from "), (", ", ","),
                         (", ", ",  "), (" to ", "  to "), (" = ", "="), (" = ", " == "), ("fin(succ(x0))", "fin"),
                         ("fin(x0)", "none"), ("clause place", "clause other"), ("maker first", "maker nil"),
                         ("x0", "x00"), ("x0", "x1"), ("x1", "x0000001"), ("first()", "first"),
                         ("index succ 1", "index succ 2"),
                         ("family vec", "family vecs"), ("maker", "makers"), ("(a,", "(a, ")]:
            for count in (1, -1):
                if TEXT.replace(old, new, count) != TEXT:
                    wrong.append(TEXT.replace(old, new, count))
        for text in wrong:
            if read_program_plainly(text) is None:
                with self.assertRaises(BadText):
                    read_program(text)
            else:
                self.assertEqual(write_program(read_program(text)), text)
        self.assertGreater(len([text for text in wrong if read_program_plainly(text) is None]), 60)

    def test_clauses_stand_behind_their_functions(self):
        head = "index any 0\nfamily nat\nmaker o : nat(any)\nfunction f : nat(any) to nat(any)"
        both = head + "\nfunction g : nat(any) to nat(any)"
        self.assertEqual(len(read_program(both)[1]), 2)
        self.assertEqual(read_program(both + "\nclause g : a = a")[1][1][3], ((("a",), "a"),))
        for text in [both + "\nclause f : a = a", head + "\nclause g : a = a", both + "\nclause h : a = a",
                     "index any 0\nfamily nat\nclause f : a = a\nmaker o : nat(any)"]:
            with self.assertRaises(BadText):
                read_program(text)

    def test_limits(self):
        many = "\n".join("index " + letter + " 0" for letter in "abcde") + "\nfamily f"
        self.assertEqual(len(read_program(many)[0][0]), 5)
        for text in [many.replace("index a 0", "index a 0\nindex g 0"),
                     many + "\nfamily g\nfamily h\nfamily i\nfamily j",
                     many + "\nfamily abcdefghijklm", many + "".join("\nmaker m" + c + " : f(x0)" for c in "abcdefghi"),
                     many + "".join("\nfunction m" + c + " : f(x0) to f(x0)" for c in "abcde"),
                     many + "\nfunction m : f(x0) to f(x0)" + "\nclause m : a = a" * 7,
                     many + "\nfunction m : f(x0), f(x0), f(x0), f(x0) to f(x0)", many + "\nmaker m : f(x1)",
                     many + "\nfunction m : f(x0) to f(x2)"]:
            with self.assertRaises(BadText):
                read_program(text)

    def test_long_texts_end_soon(self):
        for text in ["index a 0\n" * 9000, "family f\n" * 9000,
                     TEXT + "\nclause place : cons(a,nil()) = first()" * 2000,
                     "maker m : f(x0)\n" * 5000, "function f : f(x0) to f(x0)\nclause f : a = a\n" * 2000,
                     "maker " + "m" * 99000, "clause f : " + "a, " * 30000 + "a = a", "\n" * 99999, "clause" * 15000]:
            with self.assertRaises(BadText):
                read_program(text)

    def test_all_programs_come_back(self):
        for program in KNOWN + [some_program(seed) for seed in range(96)] + [split_program(n) for n in range(40)]:
            text = write_program(program)
            self.assertEqual(text, program_text(program))
            self.assertTrue(same(read_program(text), program))

    def test_by_the_words(self):
        tried = {True: 0, False: 0}
        for seed, program in enumerate([P, STRANGE, (PLAIN, ())] + KNOWN[:6] + [some_program(n) for n in range(24)]):
            rng = random.Random(seed)
            text = write_program(program)
            others = changed_texts(text, "abcxfinz(),:= 0123\n", rng, 40)
            lines = text.split("\n")
            for _ in range(25):
                k, n = rng.randrange(len(lines)), rng.randrange(len(lines))
                others += ["\n".join(lines[:k] + lines[k + 1:]), "\n".join(lines[:k] + [lines[n]] + lines[k:]),
                           "\n".join(lines[:k] + [lines[n]] + lines[k + 1:])]
            for other in others:
                wanted = read_program_plainly(other)
                tried[wanted is not None] += 1
                if wanted is None:
                    with self.assertRaises(BadText):
                        read_program(other)
                else:
                    self.assertTrue(same(read_program(other), wanted))
                    self.assertEqual(write_program(wanted), other)
        self.assertGreater(min(tried.values()), 500)


if __name__ == "__main__":
    unittest.main()
