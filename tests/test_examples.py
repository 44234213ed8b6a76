"""The examples of the interface in the document."""

import doctest
import unittest

from drafts import P
from samples import V

EXAMPLES = {
    "terms": """
>>> from casefamilies.terms import closed_terms, tidied, write_term
>>> tidied((("pair", 4, ("succ", 2)), 4))
(('pair', 0, ('succ', 1)), 0)
>>> write_term(("pair", 0, ("succ", ("zero",))))
'pair(x0,succ(zero))'
>>> closed_terms((("zero", 0), ("succ", 1)), 3)
[('succ', ('succ', ('zero',)))]
""",
    "unify": """
>>> from casefamilies.unify import join, meet, unifier
>>> unifier([(("pair", 0, 1), ("pair", 2, ("succ", 0)))]) == {2: 0, 1: ("succ", 0)}
True
>>> meet(("pair", 0, 0), ("pair", ("succ", 0), 1))
('pair', ('succ', 0), ('succ', 0))
>>> join(("pair", ("zero",), ("zero",)), ("pair", ("succ", 3), ("succ", 3)))
('pair', 0, 0)
""",
    "signatures": """
>>> from casefamilies.signatures import after, fitting, is_signature
>>> is_signature(V)
True
>>> fitting(V, "vec", ("succ", ("zero",)))
['cons']
>>> after(V, (("vec", ("succ", 3)), ("fin", 3)), "cons")
(('fin', ('succ', 0)), ('vec', 1), ('fin', 1))
""",
    "values": """
>>> from casefamilies.values import fault_place, general_index
>>> general_index(V, ("more", ("first",)))
('succ', ('succ', 0))
>>> general_index(V, ("cons", ("more", ("first",)), ("nil",)))
('succ', ('zero',))
""",
    "rules": """
>>> from casefamilies.rules import check_rule, needs, value_at
>>> check_rule(V, ("vec", "succ", ("cons", ("first",), (0, "vec"))))
True
>>> needs(V, ("vec", "succ", ("cons", ("first",), (0, "vec"))))
(('vec',),)
>>> value_at(V, "fin", ("zero",)) is None
True
""",
    "profiles and indexsets": """
>>> from casefamilies.profiles import profile, profiles
>>> profiles(V)
[('fin', 'vec'), ('vec',)]
>>> profile(V, ("zero",))
('vec',)
>>> from casefamilies.indexsets import first_difference, is_part
>>> is_part(V, "fin", "vec")
True
>>> first_difference(V, "fin", V, "vec")
('zero',)
""",
    "models and answers": """
>>> from casefamilies.answers import check_answer, possible
>>> check_answer(V, (("fin", 3),), ("full", ((3, ("succ", ("zero",))),), (("first",),)))
True
>>> check_answer(V, (("fin", ("zero",)),), ("empty", (2, ((0,), (1, 1)), ((1,), (0, 1)))))
True
>>> possible(V, (("fin", 0), ("vec", 0)))
[(('fin', 'vec'),)]
""",
    "lightest": """
>>> from casefamilies.lightest import least_weight, lightest
>>> lightest(V, (("fin", 0), ("vec", 0)), 6)
(('first',), ('cons', ('first',), ('nil',)))
>>> least_weight(V, (("fin", ("zero",)),), 6) is None
True
""",
    "counting": """
>>> from casefamilies.counting import count_values, index_classes, unrank
>>> index_classes(V, "fin", 2)
[(('succ', ('succ', 0)), 1)]
>>> count_values(V, "vec", ("succ", ("succ", ("zero",))), 6)
2
>>> unrank(V, "vec", ("succ", ("zero",)), 4, 0)
('cons', ('more', ('first',)), ('nil',))
""",
    "programs and fits": """
>>> from casefamilies.programs import is_program
>>> is_program(P)
True
>>> from casefamilies.fits import fit
>>> fit(V, 1, (("vec", ("succ", 0)),), (("cons", "a", ("cons", "b", "ys")),))
((('succ', 0),), (('a', 'fin', ('succ', 1)), ('b', 'fin', ('succ', 2)), ('ys', 'vec', 0)))
""",
    "covers and splits": """
>>> from casefamilies.splits import check_cover
>>> tree = ("split", (0,), (("clash",), ("split", (0, 1), (("clause", 0), ("clause", 1)))))
>>> check_cover(P, "place", ("covered", tree))
True
>>> check_cover(P, "place", ("missing", (("nil",),)))
False
""",
    "bodies": """
>>> from casefamilies.bodies import check_body, clause_fault
>>> check_body(P, "place", 0, ("first", (("zero",),), ()))
True
>>> clause_fault(P, "place", 1)
''
""",
    "evaluation": """
>>> from casefamilies.evaluation import result_index, run
>>> run(P, ("place", ("cons", ("first",), ("cons", ("first",), ("nil",)))), 9)
('value', ('more', ('first',)), 2)
>>> run(P, ("place", ("nil",)), 9)
('stuck', 'place', (('nil',),), 0)
>>> result_index(P, "place", (("cons", ("first",), ("nil",)),))
('succ', ('zero',))
""",
    "descent and soundness": """
>>> from casefamilies.descent import calls_of, then
>>> calls_of(P)
[('place', 1, (0,), 'place', ((0, 0, 1),))]
>>> then(("f", "f", ((0, 1, 0), (1, 0, 1))), ("f", "f", ((0, 1, 0), (1, 0, 1))))
('f', 'f', ((0, 0, 1), (1, 1, 1)))
>>> from casefamilies.soundness import is_sound
>>> is_sound(P)
True
""",
    "casetrees and treechecks": """
>>> from casefamilies.casetrees import case_tree_by
>>> case_tree_by(P, "place", (0,))
('look', (0,), (('cons', ('look', (0, 1), (('nil', ('take', 0)), ('cons', ('take', 1))))),))
>>> from casefamilies.treechecks import check_tree
>>> check_tree(P, "place", case_tree_by(P, "place", (0,)))
True
""",
    "storing": """
>>> from casefamilies.storing import restored, stored, texts_of
>>> stored(V, (("vec", ("succ", ("zero",))),), (("cons", ("more", ("first",)), ("nil",)),))
'10'
>>> restored(V, (("vec", ("succ", ("zero",))),), "0")
(('cons', ('first',), ('nil',)),)
>>> texts_of(V, (("fin", ("succ", ("succ", ("zero",)))),), 1)
['0', '1']
""",
    "workbook": """
>>> from casefamilies.workbook import Workbook
>>> book = Workbook((V[:2] + (V[2][:3],), ()))
>>> book.ask("q", (("vec", ("succ", 0)),))
>>> book.add_maker(V[2][3])
['q']
""",
    "texts": """
>>> from casefamilies.texts import read_program, write_expression, write_goal, write_program
>>> write_goal((("fin", ("succ", 1)), ("vec", 0)))
'fin(succ(x1)), vec(x0)'
>>> write_expression(("cons", "a", ("nil",)))
'cons(a,nil())'
>>> read_program(write_program(P)) == P
True
""",
    "console": """
>>> from casefamilies.console import Console
>>> console = Console(P)
>>> console.enter("count vec(succ(zero)) 4")
['1']
>>> console.enter("run place(cons(first(),nil())) 9")
['value first() 1']
>>> console.enter("drop cons")
['error InUse']
""",
}


class Examples(unittest.TestCase):
    def test_examples(self):
        for name, text in EXAMPLES.items():
            example = doctest.DocTestParser().get_doctest(text, {"V": V, "P": P}, name, None, 0)
            result = doctest.DocTestRunner().run(example)
            self.assertEqual(result.failed, 0, name)
            self.assertGreater(result.attempted, 1, name)


if __name__ == "__main__":
    unittest.main()
