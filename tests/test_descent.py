"""Calls, graphs, and papers about falling arguments (points 14.1 to 14.3)."""

import itertools
import random
import unittest

from casefamilies.descent import all_fall, calls_of, check_descent, descent_paper, then
from casefamilies.programs import is_program
from drafts import P
from plain_runs import (
    closed_graphs, graphs_of_calls, is_plainly_bad, is_right_descent, parts_of, plain_calls, plain_then)
from samples import EMPTY, ODDITIES, V, agreeable_mutants, same, structure_mutants
from systems import (
    ACKERMANN, CLOSED, GROWS, KNOWN, LISTS, LOOP, NAT, PLAIN, SPINS, SUMS, TOGETHER, TURNS, ZERO, falling_program,
    program_of, some_program)

PAPER = ("falls", (("place", "place", ((0, 0, 1),)),))


def samples(many=120):
    return KNOWN + [falling_program(seed) for seed in range(many)] + [some_program(seed) for seed in range(48)]


class Calls(unittest.TestCase):
    def test_known_ones(self):
        self.assertEqual(calls_of(P), [("place", 1, (0,), "place", ((0, 0, 1),))])
        self.assertEqual(calls_of(SUMS), [
            ("plus", 1, (0,), "plus", ((0, 0, 1), (1, 1, 0))), ("times", 1, (), "plus", ((1, 0, 0),)),
            ("times", 1, (1,), "times", ((0, 0, 1), (1, 1, 0))), ("sum", 1, (), "plus", ((0, 0, 1),)),
            ("sum", 1, (1,), "sum", ((0, 0, 1),))])
        self.assertEqual(calls_of(ACKERMANN), [
            ("ack", 1, (), "ack", ((0, 0, 1),)), ("ack", 2, (), "ack", ((0, 0, 1),)),
            ("ack", 2, (1,), "ack", ((0, 0, 0), (1, 1, 1)))])
        self.assertEqual(calls_of(LOOP), [("loop", 0, (), "loop", ((0, 0, 0),))])

    def test_clauses_without_calls(self):
        self.assertEqual(calls_of((V, ())), [])
        self.assertEqual(calls_of((EMPTY, ())), [])
        self.assertEqual(calls_of(program_of(PLAIN, ("f", (NAT,), NAT, ()))), [])
        self.assertEqual(calls_of(program_of(PLAIN, ("f", (NAT,), NAT, ((("a",), ("s", "a")), (("b",), ZERO))))), [])

    def test_closed_parts(self):
        self.assertEqual(calls_of(CLOSED), [
            ("shut", 0, (), "shut", ((0, 0, 1), (0, 1, 1), (0, 2, 1), (1, 0, 0), (1, 1, 1), (1, 2, 1))),
            ("shut", 1, (), "shut", ((0, 0, 0), (1, 0, 0), (2, 2, 1)))])

    def test_parts_that_are_no_variables(self):
        program = program_of(PLAIN, ("f", (NAT, NAT), NAT, (
            ((("s", ("s", "a")), ("s", "b")), ("f", ("s", "a"), ("s", "b"))),
            (("a", "b"), ("f", ("s", "a"), ("f", "b", "a"))))))
        self.assertEqual(calls_of(program), [
            ("f", 0, (), "f", ((0, 0, 1), (1, 1, 0))), ("f", 1, (), "f", ()), ("f", 1, (1,), "f", ((0, 1, 0),
                                                                                                 (1, 0, 0)))])

    def test_variables_with_the_names_of_makers(self):
        # A variable is a part of a pattern, the name of a maker is none.
        program = program_of(PLAIN, ("f", (NAT, NAT), NAT, (
            ((("s", "o"), "s"), ("f", "s", "o")), ((("s", ("s", "o")), "s"), ("f", "s", ZERO)))))
        self.assertTrue(is_program(program))
        self.assertEqual(calls_of(program), [
            ("f", 0, (), "f", ((0, 1, 1), (1, 0, 0))), ("f", 1, (), "f", ((1, 0, 0),))])

    def test_by_the_words(self):
        many = 0
        for program in samples():
            self.assertTrue(is_program(program))
            found = calls_of(program)
            self.assertTrue(same(found, plain_calls(program)), program)
            many += len(found)
        self.assertGreater(many, 400)

    def test_what_is_returned_is_new(self):
        calls_of(P).clear()
        self.assertEqual(len(calls_of(P)), 1)


class Then(unittest.TestCase):
    def test_known_ones(self):
        swap = ("f", "f", ((0, 1, 0), (1, 0, 1)))
        self.assertEqual(then(swap, swap), ("f", "f", ((0, 0, 1), (1, 1, 1))))
        self.assertEqual(then(("f", "g", ((0, 0, 0), (1, 0, 1))), ("g", "h", ((0, 2, 0),))),
                         ("f", "h", ((0, 2, 0), (1, 2, 1))))
        # Of two ways one that falls tells.
        self.assertEqual(then(("f", "g", ((0, 0, 0), (0, 1, 0))), ("g", "h", ((0, 1, 0), (1, 1, 1)))),
                         ("f", "h", ((0, 1, 1),)))
        self.assertEqual(then(("f", "g", ()), ("g", "h", ((0, 1, 0),))), ("f", "h", ()))
        self.assertEqual(then(("f", "g", ((0, 1, 1),)), ("g", "f", ((0, 1, 0),))), ("f", "f", ()))
        self.assertEqual(then(("f", "g", ((0, 1, 0),)), ("g", "f", ((1, 1, 0),))), ("f", "f", ((0, 1, 0),)))

    def test_by_the_words(self):
        rng = random.Random(1)

        def graph(f, g):
            pairs = sorted(rng.sample(list(itertools.product(range(3), range(3))), rng.randint(0, 6)))
            return (f, g, tuple((i, j, rng.randint(0, 1)) for i, j in pairs))

        for _ in range(500):
            one, two, three = graph("f", "g"), graph("g", "h"), graph("h", "f")
            self.assertTrue(same(then(one, two), plain_then(one, two)))
            self.assertEqual(then(then(one, two), three), then(one, then(two, three)))


class Papers(unittest.TestCase):
    def test_known_ones(self):
        self.assertEqual(descent_paper(P), PAPER)
        self.assertEqual(descent_paper((V, ())), ("falls", ()))
        for program, wanted in [(P, True), (SUMS, True), (TURNS, True), (TOGETHER, True), (ACKERMANN, True),
                                (CLOSED, True), (LISTS, True), (LOOP, False), (SPINS, False), (GROWS, False),
                                ((V, ()), True)]:
            self.assertIs(all_fall(program), wanted, program)
            self.assertEqual(descent_paper(program)[0], "falls" if wanted else "circle")

    def test_papers_are_right(self):
        words = {"falls": 0, "circle": 0}
        for program in samples():
            found = descent_paper(program)
            words[found[0]] += 1 if calls_of(program) else 0
            self.assertTrue(is_right_descent(program, found), (program, found))
            self.assertIs(check_descent(program, found), True)
            self.assertIs(all_fall(program), found[0] == "falls")
            # The graphs of all walks tell which word it must be.
            graphs = closed_graphs(program)
            self.assertEqual(found[0] == "circle", any(is_plainly_bad(graph) for graph in graphs))
            # The other word has no right paper: not with all graphs, and not with short walks.
            if found[0] == "circle":
                self.assertIs(check_descent(program, ("falls", tuple(sorted(graphs)))), False)
            else:
                many = min(len(calls_of(program)), 5)
                for n in (1, 2, 3):
                    for walk in itertools.product(range(many), repeat=n):
                        self.assertIs(check_descent(program, ("circle", walk)), False)
        self.assertGreater(min(words.values()), 25)

    def test_long_circles(self):
        # The circle has 3 * 2 calls: all arguments are moved, and one in each round is as it was.
        first = ("f", (NAT, NAT, NAT), NAT, ((("a", "b", ("s", "c")), ("g", "b", "c", "a")),))
        second = ("g", (NAT, NAT, NAT), NAT, ((("a", ("s", "b"), "c"), ("f", ("s", "b"), "a", "c")),))
        program = program_of(PLAIN, first, second)
        found = descent_paper(program)
        self.assertTrue(is_right_descent(program, found), found)
        self.assertIs(check_descent(program, found), True)

    def test_greatest_ones_end_soon(self):
        # All orders of three arguments, with one that falls: many graphs.
        clauses = []
        for at, names in enumerate(list(itertools.permutations("abc"))[:6]):
            patterns = tuple(("s", name) if k == at % 3 else name for k, name in enumerate("abc"))
            inner = tuple(names)
            clauses.append((patterns, ("f",) + inner[:2] + (("g",) + inner,)))
        program = program_of(PLAIN, ("f", (NAT,) * 3, NAT, tuple(clauses)),
                             ("g", (NAT,) * 3, NAT, tuple((patterns, ("f",) + body[3][1:]) for patterns, body
                                                          in clauses)))
        self.assertTrue(is_program(program))
        found = descent_paper(program)
        self.assertTrue(is_right_descent(program, found))
        self.assertIs(check_descent(program, found), True)
        many = big_program(17)
        self.assertTrue(is_program(many))
        found = descent_paper(many)
        self.assertEqual(found[0], "falls")
        self.assertGreater(len(found[1]), 1500)
        self.assertIs(check_descent(many, found), True)
        self.assertIs(check_descent(many, ("falls", found[1][1:])), False)


LEAVES = (("a",), ("b",), ("c",), ("d",))
T = ("t", ("o",))
TREES = ((("o", 0),), ("t",), tuple((leaf[0], "t", ("o",), ()) for leaf in LEAVES) + (
    ("one", "t", ("o",), (T,)), ("two", "t", ("o",), (T,) * 2), ("three", "t", ("o",), (T,) * 3)))


def closed_pattern(rng, height):
    if height == 1:
        return rng.choice(LEAVES)
    word, many = rng.choice([("three", 3), ("two", 2), ("one", 1)])
    return (word,) + tuple(closed_pattern(rng, height - 1) for _ in range(many))


def big_program(seed):
    """Return a program with 3 functions, 18 clauses and 36 calls that hand on closed parts: it has many graphs."""
    rng = random.Random(seed)
    functions = []
    for word in ("f", "g", "h"):
        clauses = []
        for _ in range(6):
            patterns = [closed_pattern(rng, 3) for _ in range(3)]
            patterns[1] = rng.choice(parts_of(patterns[0]))
            rng.shuffle(patterns)
            below = [part for pattern in patterns for part in [pattern] + parts_of(pattern)]
            calls = [(rng.choice("fgh"),) + tuple(rng.choice(below) for _ in range(3)) for _ in range(2)]
            clauses.append((tuple(patterns), ("two",) + tuple(calls)))
        functions.append((word, (T,) * 3, T, tuple(clauses)))
    return (TREES, tuple(functions))


class Checks(unittest.TestCase):
    def test_papers_of_others(self):
        self.assertIs(check_descent(P, PAPER), True)
        # More graphs than needed are right too, if no call leads out of them.
        empty = ("place", "place", ())
        self.assertIs(check_descent(P, ("falls", (empty,) + PAPER[1])), False)
        spins = ("circle", (0, 1, 0, 1))
        self.assertIs(check_descent(SPINS, ("circle", (0, 1))), False)
        self.assertIs(check_descent(SPINS, spins), True)
        self.assertIs(check_descent(SPINS, ("circle", (1, 0, 1, 0))), True)
        self.assertIs(check_descent(SPINS, ("circle", (0, 1) * 6)), True)
        self.assertIs(check_descent(LOOP, ("circle", (0,))), True)
        self.assertIs(check_descent(LOOP, ("circle", (0,) * 99)), True)
        two = program_of(PLAIN, ("f", (NAT, NAT), NAT, (((("s", "a"), "b"), ("f", "a", "b")),)))
        graph = ("f", "f", ((0, 0, 1), (1, 1, 0)))
        self.assertIs(check_descent(two, ("falls", (graph,))), True)
        more = ("f", "f", ((0, 0, 1),))
        self.assertIs(check_descent(two, ("falls", (more, graph))), True)
        self.assertIs(check_descent(two, ("falls", (graph, more))), False)
        self.assertIs(check_descent(two, ("falls", (more,))), False)
        # A graph that is not needed may not be a bad one either.
        for bad in [("f", "f", ((1, 1, 0),)), ("f", "f", ())]:
            self.assertIs(check_descent(two, ("falls", tuple(sorted([bad, graph])))), False)
        # This one is not circular, and the call leads from it back to it.
        turn = ("f", "f", ((0, 1, 0),))
        self.assertIs(check_descent(two, ("falls", tuple(sorted([turn, graph])))), True)
        self.assertIs(check_descent(two, ("falls", tuple(sorted([("f", "f", ((0, 1, 1), (1, 0, 0))), graph])))), False)

    def test_wrong_walks(self):
        for walk in [(), (0,), (1,), (0, 0, 0, 0), (0, 1, 0), (1, 0, 1), (0, 1), (0, 1, 0, 2), (0, 1, 0, -1),
                     (0, True, 0, 1), (False, 1, 0, 1), [0, 1, 0, 1], (0, 1, 0, 1.0), (0, 1, 0, "1"), ((0, 1, 0, 1),),
                     (0, 1, 0, None), (0, 1, 0, 10 ** 20), None, 0, "0101", {0: 1}]:
            self.assertIs(check_descent(SPINS, ("circle", walk)), False, walk)
        # A walk that is not circular after one round, and one along which an argument falls.
        self.assertIs(check_descent(P, ("circle", (0,))), False)
        self.assertIs(check_descent(TOGETHER, ("circle", (0, 0))), False)
        self.assertIs(check_descent(GROWS, ("circle", (0, 1))), True)
        self.assertIs(check_descent(GROWS, ("circle", (0,))), False)

    def test_walks_that_do_not_close(self):
        program = program_of(PLAIN, ("f", (NAT,), NAT, ((("a",), ("g", "a")),)),
                             ("g", (NAT,), NAT, ((("a",), ("g", "a")), (("b",), ("f", "b")))))
        self.assertEqual([row[0] + row[3] for row in calls_of(program)], ["fg", "gg", "gf"])
        for walk, wanted in [((0,), False), ((0, 1), False), ((0, 1, 2), True), ((0, 2), True), ((1,), True),
                             ((2, 0), True), ((1, 2), False), ((2, 1), False), ((1, 2, 0), True), ((0, 0), False),
                             ((2, 0, 1), True), ((0, 1, 1, 1, 2), True), ((2, 2), False), ((1, 0), False)]:
            self.assertIs(check_descent(program, ("circle", walk)), wanted, walk)
            self.assertIs(is_right_descent(program, ("circle", walk)), wanted, walk)

    def test_wrong_graphs(self):
        for graph in [("place", "place", ((0, 0, 0),)), ("place", "place", ()), ("place", "none", ((0, 0, 1),)),
                      ("none", "place", ((0, 0, 1),)), ("place", "place", ((0, 0, True),)),
                      ("place", "place", ((False, 0, 1),)), ("place", "place", ((0, 1, 1),)),
                      ("place", "place", ((1, 0, 1),)), ("place", "place", ((0, 0, 2),)),
                      ("place", "place", ((0, 0, -1),)), ("place", "place", [(0, 0, 1)]),
                      ("place", "place", ([0, 0, 1],)), ["place", "place", ((0, 0, 1),)], ("place", "place"),
                      ("place", "place", ((0, 0, 1), (0, 0, 1))), ("place", "place", ((0, 0, 0), (0, 0, 1))),
                      ("place", "place", ((0, 0, 1, 1),)), ("place", "place", ((0, 0),)), ("place", "place", None),
                      ("place", "place", ((0, 0, 1.0),)), ("place", ("place",), ((0, 0, 1),)), None, (), "place"]:
            self.assertIs(check_descent(P, ("falls", (graph,))), False, graph)
            self.assertIs(check_descent(P, ("falls", PAPER[1] + (graph,))), False, graph)

    def test_graphs_that_no_call_asks_for(self):
        # Without calls each graph may stand there that is no bad one; only its form is asked.
        program = program_of(PLAIN, ("f", (NAT, NAT), NAT, ()), ("g", (NAT,), NAT, ()))
        for f, g, edges, wanted in [
                ("f", "f", ((0, 0, 1), (0, 1, 0)), True), ("f", "f", ((0, 0, 1), (1, 1, 0)), True),
                ("f", "f", ((0, 1, 0),), True), ("f", "g", ((0, 0, 0), (1, 0, 0)), True), ("g", "f", (), True),
                ("g", "f", ((0, 0, 0), (0, 1, 1)), True), ("g", "g", ((0, 0, 1),), True), ("f", "g", (), True),
                ("f", "f", ((0, 0, 1), (0, 1, -1)), False), ("f", "f", ((0, 0, 1), (0, 1, 2)), False),
                ("f", "f", ((-1, 0, 1), (0, 0, 1)), False), ("f", "f", ((0, -1, 1), (0, 0, 1)), False),
                ("f", "f", ((0, 0, 1), (2, 0, 1)), False), ("f", "f", ((0, 0, 1), (0, 2, 1)), False),
                ("f", "g", ((0, 0, 0), (0, 0, 1)), False), ("f", "g", ((0, 0, 1), (0, 0, 1)), False),
                ("f", "g", ((1, 0, 0), (0, 0, 0)), False), ("f", "g", ((0, 1, 0),), False),
                ("g", "f", ((1, 0, 0),), False),
                ("f", "g", ((0, 0, True),), False), ("f", "g", ((0, False, 0),), False), ("f", "g", [(0, 0, 0)], False),
                ("f", "f", (), False), ("g", "g", ((0, 0, 0),), False), ("f", "h", (), False), ("h", "f", (), False)]:
            paper = ("falls", ((f, g, edges),))
            self.assertIs(is_right_descent(program, paper), wanted, paper)
            self.assertIs(check_descent(program, paper), wanted, paper)

    def test_values_of_no_form(self):
        for value in ODDITIES + [("falls",), PAPER + ((),), list(PAPER), PAPER[1], ("Falls", PAPER[1]),
                                 ("circle", PAPER[1]), ("falls", list(PAPER[1])), ("falls", None), (True, PAPER[1]),
                                 ("falls", {}), ("falls", 0), ("falls", "place"), ("circle", "0"), "falls"]:
            self.assertIs(check_descent(P, value), False, repr(value))
            self.assertIs(check_descent(SPINS, value), False, repr(value))
        for value in ODDITIES:
            self.assertIs(check_descent((V, ()), value), False)
        for mutant in agreeable_mutants(PAPER):
            self.assertIs(check_descent(P, mutant), False)
        for mutant in agreeable_mutants(("circle", (0, 1, 0, 1))):
            self.assertIs(check_descent(SPINS, mutant), False)

    def test_changed_papers_by_the_words(self):
        tried = {True: 0, False: 0}
        for program in samples(40):
            paper = descent_paper(program)
            if len(paper[1]) > 12:
                continue
            for mutant in structure_mutants(paper)[:300]:
                wanted = is_right_descent(program, mutant)
                self.assertIs(check_descent(program, mutant), wanted, repr((program, mutant)))
                tried[wanted] += 1
        self.assertGreater(tried[True], 10)
        self.assertGreater(tried[False], 3000)

    def test_graphs_with_one_edge_changed(self):
        tried = {True: 0, False: 0}
        for program in samples(60):
            word, graphs = descent_paper(program)
            if word != "falls" or len(graphs) > 10:
                continue
            for k, (f, g, edges) in enumerate(graphs):
                changed = [edges[:n] + edges[n + 1:] for n in range(len(edges))]
                changed += [edges[:n] + ((i, j, 1 - falls),) + edges[n + 1:]
                            for n, (i, j, falls) in enumerate(edges)]
                changed += [tuple(sorted(edges + ((i, j, falls),))) for i in range(3) for j in range(3)
                            for falls in (0, 1)]
                for other in changed:
                    mutant = ("falls", tuple(sorted(graphs[:k] + ((f, g, other),) + graphs[k + 1:])))
                    wanted = is_right_descent(program, mutant)
                    self.assertIs(check_descent(program, mutant), wanted, (program, mutant))
                    tried[wanted] += 1
        self.assertGreater(tried[False], 1000)

    def test_the_graphs_of_the_calls_are_there(self):
        for program in KNOWN:
            word, graphs = descent_paper(program)
            if word == "falls":
                for graph in graphs_of_calls(program):
                    self.assertIn(graph, graphs)
                    rest = tuple(other for other in graphs if other != graph)
                    self.assertIs(check_descent(program, ("falls", rest)), False)


if __name__ == "__main__":
    unittest.main()
