"""The files of the package: what stands where, and the plain rules of the language."""

import ast
import builtins
import pathlib
import unittest
import warnings

ROOT = pathlib.Path(__file__).resolve().parent.parent
PACKAGE = ROOT / "lasttext"
FILES = sorted(path for path in PACKAGE.rglob("*") if "__pycache__" not in path.parts)

INTERFACE = {
    "errors": ("LastTextError", "Refused", "BadProgram", "BadJournal"),
    "matrices": ("operate",),
    "programs": ("shapes",),
    "programtexts": ("write_program", "read_program"),
    "lines": ("needed", "run_lines"),
    "back": ("forward", "plan", "gradients", "rates"),
    "orders": ("rank", "order", "shares"),
    "settings": ("sum_tree", "advance", "send"),
    "runs": ("documents_of", "run", "asked"),
    "edits": (
        "new_text", "put_source", "drop_source", "set_seed", "put_document", "drop_document", "put_segment",
        "set_segment", "drop_segment", "set_start", "set_program", "put_test", "drop_test", "first_changed",
    ),
    "studio": ("Studio",),
    "journals": ("restart",),
}
METHODS = (
    "text", "branches", "edit", "fork", "undo", "redo", "take_over", "parted", "table", "fresh", "wanted", "ask",
    "keep_newest", "keep_needed", "open_question", "give", "done", "lost", "finish", "stop", "test", "best", "bills",
    "uses", "hangs", "transcript", "dispute", "journal",
)
ALLOWED_BUILTINS = set(
    "len range enumerate zip min max sum abs sorted reversed int str bool list tuple dict set "
    "isinstance ord repr any all divmod super Exception ValueError TypeError KeyError "
    "IndexError LookupError ZeroDivisionError True False None".split()
)
BARRED_NODES = (
    ast.Global, ast.AsyncFunctionDef, ast.AsyncFor, ast.AsyncWith, ast.Await, ast.Import,
    ast.Div, ast.MatMult, ast.YieldFrom,
)
BARRED_WORDS = ("register", "mro", "elements", "open", "input", "law", "eval", "exec", "type")


def trees():
    return [(path, ast.parse(path.read_text("ascii"))) for path in FILES]


def nodes():
    return [(path, node) for path, tree in trees() for node in ast.walk(tree)]


class Layout(unittest.TestCase):
    def test_the_folder_contains_plain_files_alone(self):
        self.assertIn(PACKAGE / "__init__.py", FILES)
        for path in FILES:
            self.assertEqual((path.parent, path.suffix), (PACKAGE, ".py"))

    def test_the_interface_is_defined_in_its_files(self):
        for file, names in INTERFACE.items():
            tree = ast.parse((PACKAGE / f"{file}.py").read_text("ascii"))
            found = [node.name for node in tree.body if isinstance(node, (ast.FunctionDef, ast.ClassDef))]
            for name in names:
                self.assertIn(name, found)

    def test_the_methods_stand_in_the_class_itself(self):
        tree = ast.parse((PACKAGE / "studio.py").read_text("ascii"))
        studio = next(node for node in tree.body if isinstance(node, ast.ClassDef) and node.name == "Studio")
        found = [node.name for node in studio.body if isinstance(node, ast.FunctionDef)]
        self.assertEqual(len(found), len(set(found)))
        for name in METHODS:
            self.assertIn(name, found)

    def test_no_imports_go_around(self):
        imports = {}
        for path, tree in trees():
            own = [node.module.split(".")[1] for node in tree.body if isinstance(node, ast.ImportFrom)]
            imports[path.stem] = own
        while imports:
            free = [name for name, own in imports.items() if not any(other in imports for other in own)]
            self.assertNotEqual(free, [], imports)
            for name in free:
                del imports[name]

    def test_every_import_is_used(self):
        for path, tree in trees():
            names = [node.id for node in ast.walk(tree) if isinstance(node, ast.Name)]
            for node in tree.body:
                for alias in getattr(node, "names", []):
                    self.assertIn(alias.name, names, path)

    def test_no_name_is_a_method_and_an_attribute(self):
        methods, attributes = {}, {}
        for path, node in nodes():
            if isinstance(node, ast.ClassDef):
                for part in node.body:
                    methods[getattr(part, "name", None)] = path
            if isinstance(node, ast.Attribute) and isinstance(node.ctx, ast.Store):
                attributes[node.attr] = path
        self.assertEqual(set(methods) & set(attributes), set())

    def test_no_variable_has_the_name_of_an_import_or_a_class_of_its_file(self):
        for path, tree in trees():
            names = [alias.name for node in tree.body for alias in getattr(node, "names", [])]
            names += [node.name for node in tree.body if isinstance(node, ast.ClassDef)]
            for node in ast.walk(tree):
                if isinstance(node, ast.Name) and isinstance(node.ctx, ast.Store):
                    self.assertNotIn(node.id, names, path)
                if isinstance(node, ast.arg):
                    self.assertNotIn(node.arg, names, path)

    def test_characters_and_sizes(self):
        for path in FILES:
            lines = path.read_text("ascii").split("\n")
            self.assertLessEqual(len(lines), 400, path)
            for line in lines:
                self.assertLessEqual(len(line), 120, path)
                self.assertTrue(line.isprintable(), (path, line))

    def test_functions_have_at_most_40_lines(self):
        for path, node in nodes():
            if isinstance(node, ast.FunctionDef):
                self.assertLessEqual(node.end_lineno - node.lineno + 1, 40, (path, node.name))
                self.assertEqual(node.decorator_list, [], (path, node.name))

    def test_imports_name_the_file_that_defines(self):
        for path, node in nodes():
            self.assertNotIsInstance(node, BARRED_NODES, path)
            if isinstance(node, ast.ImportFrom):
                self.assertEqual((node.level, node.module.split(".")[0]), (0, "lasttext"))
                source = ast.parse((ROOT / (node.module.replace(".", "/") + ".py")).read_text("ascii"))
                found = [part.name for part in source.body if hasattr(part, "name")]
                for part in source.body:
                    if isinstance(part, ast.Assign):
                        found.append(part.targets[0].id)
                for alias in node.names:
                    self.assertIn(alias.name, found, path)

    def test_module_level_holds_definitions_alone(self):
        for path, tree in trees():
            for at, node in enumerate(tree.body):
                is_docstring = at == 0 and isinstance(node, ast.Expr)
                kinds = (ast.ImportFrom, ast.FunctionDef, ast.ClassDef, ast.Assign)
                self.assertTrue(is_docstring or isinstance(node, kinds), (path, node.lineno))

    def test_strings_and_numbers(self):
        for path, node in nodes():
            if isinstance(node, ast.Constant):
                self.assertNotIsInstance(node.value, float, path)
                if isinstance(node.value, str):
                    self.assertNotIn("%", node.value, path)

    def test_python_gives_no_warning(self):
        with warnings.catch_warnings():
            warnings.simplefilter("error")
            for path in FILES:
                compile(path.read_text("ascii"), str(path), "exec")

    def test_builtins_and_names(self):
        for path, node in nodes():
            names = [getattr(node, field, None) for field in ("id", "name", "arg", "attr")]
            if isinstance(node, ast.Name) and isinstance(node.ctx, ast.Load) and hasattr(builtins, node.id):
                self.assertIn(node.id, ALLOWED_BUILTINS, (path, node.lineno))
            for name in names:
                self.assertNotIn(name, BARRED_WORDS, path)
            bound = isinstance(node, (ast.FunctionDef, ast.ClassDef, ast.arg))
            if bound or (isinstance(node, ast.Name) and isinstance(node.ctx, ast.Store)):
                name = next(name for name in names if name is not None)
                self.assertFalse(hasattr(builtins, name) and name != "__init__", (path, name))


if __name__ == "__main__":
    unittest.main()
