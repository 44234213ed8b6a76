"""The examples of the interface in the document."""

import doctest
import unittest

from samples import V

EXAMPLES = {
    "terms": """
>>> from casefamilies.terms import closed_terms, tidied, write_term
>>> tidied((("pair", 4, ("succ", 2)), 4))
(('pair', 0, ('succ', 1)), 0)
>>> write_term(("pair", 0, ("succ", ("zero",))))
'pair(x0,succ(zero))'
>>> closed_terms((("zero", 0), ("succ", 1)), 3)
[('succ', ('succ', ('zero',)))]
""",
    "unify": """
>>> from casefamilies.unify import join, meet, unifier
>>> unifier([(("pair", 0, 1), ("pair", 2, ("succ", 0)))]) == {2: 0, 1: ("succ", 0)}
True
>>> meet(("pair", 0, 0), ("pair", ("succ", 0), 1))
('pair', ('succ', 0), ('succ', 0))
>>> join(("pair", ("zero",), ("zero",)), ("pair", ("succ", 3), ("succ", 3)))
('pair', 0, 0)
""",
    "signatures": """
>>> from casefamilies.signatures import after, fitting, is_signature
>>> is_signature(V)
True
>>> fitting(V, "vec", ("succ", ("zero",)))
['cons']
>>> after(V, (("vec", ("succ", 3)), ("fin", 3)), "cons")
(('fin', ('succ', 0)), ('vec', 1), ('fin', 1))
""",
    "values": """
>>> from casefamilies.values import fault_place, general_index
>>> general_index(V, ("more", ("first",)))
('succ', ('succ', 0))
>>> general_index(V, ("cons", ("more", ("first",)), ("nil",)))
('succ', ('zero',))
""",
    "rules": """
>>> from casefamilies.rules import check_rule, needs, value_at
>>> check_rule(V, ("vec", "succ", ("cons", ("first",), (0, "vec"))))
True
>>> needs(V, ("vec", "succ", ("cons", ("first",), (0, "vec"))))
(('vec',),)
>>> value_at(V, "fin", ("zero",)) is None
True
""",
    "profiles and indexsets": """
>>> from casefamilies.profiles import profile, profiles
>>> profiles(V)
[('fin', 'vec'), ('vec',)]
>>> profile(V, ("zero",))
('vec',)
>>> from casefamilies.indexsets import first_difference, is_part
>>> is_part(V, "fin", "vec")
True
>>> first_difference(V, "fin", V, "vec")
('zero',)
""",
}


class Examples(unittest.TestCase):
    def test_examples(self):
        for name, text in EXAMPLES.items():
            example = doctest.DocTestParser().get_doctest(text, {"V": V}, name, None, 0)
            result = doctest.DocTestRunner().run(example)
            self.assertEqual(result.failed, 0, name)
            self.assertGreater(result.attempted, 1, name)


if __name__ == "__main__":
    unittest.main()
