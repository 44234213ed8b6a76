"""The examples of the interface in the document."""

import doctest
import unittest

from samples import V

EXAMPLES = {
    "terms": """
>>> from casefamilies.terms import closed_terms, tidied, write_term
>>> tidied((("pair", 4, ("succ", 2)), 4))
(('pair', 0, ('succ', 1)), 0)
>>> write_term(("pair", 0, ("succ", ("zero",))))
'pair(x0,succ(zero))'
>>> closed_terms((("zero", 0), ("succ", 1)), 3)
[('succ', ('succ', ('zero',)))]
""",
    "unify": """
>>> from casefamilies.unify import join, meet, unifier
>>> unifier([(("pair", 0, 1), ("pair", 2, ("succ", 0)))]) == {2: 0, 1: ("succ", 0)}
True
>>> meet(("pair", 0, 0), ("pair", ("succ", 0), 1))
('pair', ('succ', 0), ('succ', 0))
>>> join(("pair", ("zero",), ("zero",)), ("pair", ("succ", 3), ("succ", 3)))
('pair', 0, 0)
""",
    "signatures": """
>>> from casefamilies.signatures import after, fitting, is_signature
>>> is_signature(V)
True
>>> fitting(V, "vec", ("succ", ("zero",)))
['cons']
>>> after(V, (("vec", ("succ", 3)), ("fin", 3)), "cons")
(('fin', ('succ', 0)), ('vec', 1), ('fin', 1))
""",
}


class Examples(unittest.TestCase):
    def test_examples(self):
        for name, text in EXAMPLES.items():
            example = doctest.DocTestParser().get_doctest(text, {"V": V}, name, None, 0)
            result = doctest.DocTestRunner().run(example)
            self.assertEqual(result.failed, 0, name)
            self.assertGreater(result.attempted, 1, name)


if __name__ == "__main__":
    unittest.main()
