"""The form of the files of the package: sizes, imports, and where the interface is defined."""

import ast
import builtins
import os
import unittest

ROOT = os.path.dirname(os.path.dirname(os.path.abspath(__file__)))
PACKAGE = os.path.join(ROOT, "casefamilies")

INTERFACE = {
    "errors": "FamilyError BadText Unknown NoProfile NotThere BadCode BadProgram BadMaker BadFunction BadQuestion "
              "InUse Taken Full NothingToUndo",
    "terms": "is_word is_constructors is_term is_closed_term is_linear size height count_closed_terms variables "
             "substituted shifted composed tidied closed_terms write_term read_term",
    "unify": "unifier match meet join same_up_to_names",
    "signatures": "is_signature is_goal maker_of makers_of fitting families_below goal_variables tidied_goal after",
    "values": "is_value has_index check_derivation family_of weight depth part_at general_index derivation fault_place",
    "rules": "check_rule is_complete filled needs rules value_at",
    "profiles": "profile profiles profile_after profile_paper check_profiles",
    "indexsets": "indices_of count_indices count_likenesses least_index first_difference is_finite is_part",
    "models": "is_model fails_in state_of",
    "answers": "answer check_answer has_solution possible dead_makers",
    "lightest": "values_of least_weight lightest",
    "counting": "index_classes count_values count_solutions rank unrank",
    "programs": "is_program function_of matched first_clause",
    "fits": "fit",
    "covers": "cover_paper reach_paper is_covered useless_clauses",
    "splits": "check_cover check_reach",
    "bodies": "body_paper check_body clause_fault faults",
    "evaluation": "step run typed_call result_index",
    "descent": "calls_of then descent_paper check_descent all_fall",
    "soundness": "is_sound",
    "casetrees": "case_tree case_tree_by run_tree looked_at most_looks",
    "treechecks": "check_tree",
    "storing": "choices stored restored texts_of",
    "workbook": "Workbook",
    "texts": "write_goal write_expression write_program read_goal read_expression read_program",
    "console": "Console",
}
METHODS = {
    ("workbook", "Workbook"): "program questions add_maker drop_maker set_function drop_function ask forget answer_to "
                              "cover_of kept_answers kept_covers undo",
    ("console", "Console"): "enter",
}


def text_of(name):
    with open(os.path.join(PACKAGE, name), encoding="utf-8") as file:
        return file.read()


class Form(unittest.TestCase):
    def setUp(self):
        self.files = sorted(name for name in os.listdir(PACKAGE) if name != "__pycache__")
        self.trees = {name: ast.parse(text_of(name)) for name in self.files}

    def test_the_folder_contains_python_files_alone(self):
        self.assertTrue(all(name.endswith(".py") for name in self.files), self.files)
        self.assertIn("__init__.py", self.files)

    def test_sizes_and_signs(self):
        for name in self.files:
            lines = text_of(name).split("\n")
            self.assertLessEqual(len(lines), 399, name)
            self.assertLessEqual(max(len(line) for line in lines), 120, name)
            self.assertTrue(all(" " <= sign <= "~" or sign == "\n" for sign in text_of(name)), name)
            for node in ast.walk(self.trees[name]):
                if isinstance(node, ast.FunctionDef):
                    self.assertLessEqual(node.end_lineno - node.lineno + 1, 40, (name, node.name))
                    self.assertIsNotNone(ast.get_docstring(node) or node.name.startswith("__"), (name, node.name))

    def test_no_star_stands_in_an_index(self):
        for name, tree in self.trees.items():
            indexes = [node.slice for node in ast.walk(tree) if isinstance(node, ast.Subscript)]
            stars = [part.lineno for index in indexes for part in ast.walk(index) if isinstance(part, ast.Starred)]
            self.assertEqual(stars, [], name)

    def test_no_name_has_another_meaning(self):
        # The examples of doctest leave a builtin called _ behind.
        taken = set(dir(builtins)) - {"_"} | set("elements law mro register".split())
        for name, tree in self.trees.items():
            imported = [alias.name for node in tree.body if isinstance(node, ast.ImportFrom) for alias in node.names]
            for node in ast.walk(tree):
                bound = [node.arg] if isinstance(node, ast.arg) else []
                bound += [node.name] if isinstance(node, (ast.FunctionDef, ast.ClassDef)) else []
                bound += [node.id] if isinstance(node, ast.Name) and isinstance(node.ctx, ast.Store) else []
                for word in bound:
                    self.assertNotIn(word, taken | set(imported), (name, node.lineno))

    def test_what_the_subset_leaves_out(self):
        barred = (ast.GeneratorExp, ast.Set, ast.SetComp, ast.Global, ast.AsyncFunctionDef, ast.Await, ast.Div, ast.Pow)
        for name, tree in self.trees.items():
            for node in ast.walk(tree):
                self.assertNotIsInstance(node, barred, (name, getattr(node, "lineno", None)))
                if isinstance(node, ast.Call) and isinstance(node.func, ast.Name) and node.func.id in ("zip", "range"):
                    self.assertFalse(any(isinstance(part, ast.Starred) for part in node.args), (name, node.lineno))

    def test_interface_is_defined_where_it_is_listed(self):
        for module, names in INTERFACE.items():
            body = self.trees[module + ".py"].body
            defined = [node.name for node in body if isinstance(node, (ast.FunctionDef, ast.ClassDef))]
            for name in names.split():
                self.assertEqual(defined.count(name), 1, (module, name))

    def test_methods_stand_in_their_class(self):
        for (module, name), methods in METHODS.items():
            body = [node for node in self.trees[module + ".py"].body if getattr(node, "name", None) == name][0].body
            defined = [node.name for node in body if isinstance(node, ast.FunctionDef)]
            for method in ["__init__"] + methods.split():
                self.assertEqual(defined.count(method), 1, (name, method))

    def test_errors_are_right_below_the_base_class(self):
        classes = {node.name: node for node in self.trees["errors.py"].body if isinstance(node, ast.ClassDef)}
        for name, node in classes.items():
            wanted = "ValueError" if name == "FamilyError" else "FamilyError"
            self.assertEqual([base.id for base in node.bases], [wanted])

    def test_only_builtins_and_methods_of_the_subset(self):
        builtin = set("len range enumerate zip min max sum abs sorted reversed int str bool list tuple dict set "
                      "isinstance ord repr any all super type".split())
        methods = set("append clear copy count endswith extend find get index insert items join keys partition pop "
                      "remove replace reverse setdefault split startswith strip update values isdigit".split())
        nodes = [node for tree in self.trees.values() for node in ast.walk(tree)]
        own = {node.name for node in nodes if isinstance(node, ast.FunctionDef)}
        for name, tree in self.trees.items():
            for node in ast.walk(tree):
                if isinstance(node, ast.Name) and hasattr(builtins, node.id) and node.id != "_":
                    known = builtin | {"ValueError"}
                    self.assertIn(node.id, known, (name, node.lineno))
                if isinstance(node, ast.Call) and isinstance(node.func, ast.Attribute):
                    self.assertIn(node.func.attr, methods | own, (name, node.lineno))
                if isinstance(node, ast.Call) and isinstance(node.func, ast.Name) and node.func.id == "type":
                    self.assertEqual(len(node.args), 1)

    def test_imports_are_of_the_package_and_of_what_is_defined_there(self):
        for name, tree in self.trees.items():
            for node in ast.walk(tree):
                self.assertNotIsInstance(node, ast.Import, name)
                if isinstance(node, ast.ImportFrom):
                    package, module = node.module.split(".")
                    self.assertEqual((package, node.level), ("casefamilies", 0))
                    defined = [part.name for part in self.trees[module + ".py"].body if hasattr(part, "name")]
                    for alias in node.names:
                        self.assertIsNone(alias.asname)
                        self.assertIn(alias.name, defined, name)
                        self.assertIn(alias.name, names_read(tree), (name, "is not used"))

    def test_no_two_files_import_from_each_other(self):
        below = {name: [node.module.split(".")[1] + ".py" for node in tree.body if isinstance(node, ast.ImportFrom)]
                 for name, tree in self.trees.items()}
        done = []
        while len(done) < len(below):
            ready = [name for name in below if name not in done and all(part in done for part in below[name])]
            self.assertTrue(ready, "files import from each other")
            done.extend(ready)


def names_read(tree):
    return {node.id for node in ast.walk(tree) if isinstance(node, ast.Name)}


if __name__ == "__main__":
    unittest.main()
