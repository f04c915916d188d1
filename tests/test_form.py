"""The form of the package: what a machine can see of the rules that its files keep."""

import ast
import builtins
import importlib
import io
import pathlib
import re
import tokenize
import unittest

PACKAGE = pathlib.Path(__file__).resolve().parent.parent / "fascicle"

INTERFACE = {
    "errors": ("Refused", "Malformed", "Oversized", "NoModule", "NoExport", "Clashing", "Unknown", "Fixed", "Misused",
               "BadOption", "Thrown", "Weary"),
    "lexer": ("tokens", "is_name"),
    "parser": ("parse",),
    "graph": ("Graph",),
    "check": ("checked",),
    "meaning": ("run",),
    "link": ("Linked", "link"),
    "uses": ("expression_uses", "statement_uses", "block_uses"),
    "fold": ("fold", "fold_expression", "fold_statement"),
    "dead": ("dead", "always_ends"),
    "shake": ("removable", "accepts", "left_out", "shake"),
    "names": ("short_name", "names_for"),
    "printer": ("print_linked",),
    "bundle": ("bundle", "origin"),
}

INTERFACE_METHODS = {
    ("graph", "Graph"): ("order", "module_items", "declared", "imported", "spaces", "resolve", "exports"),
    ("link", "Linked"): ("statements", "exports", "variables", "with_statements"),
}

BUILTINS = set(
    "len range enumerate zip min max sum abs sorted reversed int str bool list tuple dict set isinstance ord repr any "
    "all divmod ValueError KeyError super".split()
)

METHODS = set(
    "append clear copy count endswith extend find get index insert isalnum isalpha isdigit islower isspace isupper "
    "items join keys ljust lower lstrip partition pop remove replace reverse rfind rjust rpartition rsplit rstrip "
    "setdefault split splitlines startswith strip update upper values zfill __init__".split()
)

NOT_USED = set(
    "register mro elements open input law version_info with_traceback add_note attrgetter breakpoint builtins compile "
    "copyright credits delattr dir eval exec exit gc globals help id importlib license locals methodcaller os quit "
    "type vars sys typing typing_extensions enum Enum Generic Protocol ABC namedtuple NamedTuple TypedDict _wall "
    "_WallAttr".split()
)

ALLOWED_NODES = (
    ast.Module, ast.ImportFrom, ast.alias, ast.FunctionDef, ast.ClassDef, ast.arguments, ast.arg, ast.Assign,
    ast.AugAssign, ast.Expr, ast.If, ast.While, ast.For, ast.Return, ast.Break, ast.Continue, ast.Pass, ast.Raise,
    ast.Try, ast.ExceptHandler, ast.Name, ast.Attribute, ast.Subscript, ast.Slice, ast.Call, ast.Constant, ast.Tuple,
    ast.List, ast.Dict, ast.Set, ast.ListComp, ast.DictComp, ast.comprehension, ast.BoolOp, ast.BinOp, ast.UnaryOp,
    ast.Compare, ast.IfExp, ast.Starred, ast.JoinedStr, ast.FormattedValue, ast.expr_context, ast.boolop, ast.Add,
    ast.Sub, ast.Mult, ast.FloorDiv, ast.Mod, ast.Not, ast.USub, ast.cmpop, ast.Delete,
)


def plain(node, tree, line):
    """Return True if a node is a plain value, or a dict of these and of functions that are defined above a line."""
    if isinstance(node, ast.Dict):
        return all(plain(part, tree, line) for part in [*node.keys, *node.values])
    if isinstance(node, ast.Name):
        return any(isinstance(other, ast.FunctionDef) and other.name == node.id and other.lineno < line for other in tree.body)
    return ast.literal_eval(node) is not None


class FormTest(unittest.TestCase):
    def setUp(self):
        self.texts = {path.stem: path.read_text() for path in sorted(PACKAGE.glob("*.py"))}
        self.trees = {name: ast.parse(text) for name, text in self.texts.items()}

    def nodes(self):
        for name, tree in self.trees.items():
            for node in ast.walk(tree):
                yield name, node

    def test_the_folder_contains_nothing_else(self):
        for path in PACKAGE.iterdir():
            if path.name != "__pycache__":
                self.assertRegex(path.name, "^[a-z_]+[.]py$")
        self.assertIn("__init__", self.texts)

    def test_sizes_and_characters(self):
        for name, text in self.texts.items():
            rows = text.split("\n")
            self.assertLessEqual(len(rows), 399, name)
            self.assertLessEqual(max(map(len, rows)), 120, name)
            self.assertEqual(re.findall("[^ -~\n]", text), [], name)
        for name, node in self.nodes():
            if isinstance(node, ast.FunctionDef):
                self.assertLessEqual(node.end_lineno - node.lineno + 1, 40, node.name)

    def test_the_parts_of_the_language(self):
        for name, node in self.nodes():
            self.assertIsInstance(node, ALLOWED_NODES, (name, getattr(node, "lineno", None)))
            if isinstance(node, (ast.FunctionDef, ast.ClassDef)):
                self.assertEqual(node.decorator_list, [], (name, node.name))
            if isinstance(node, ast.Constant):
                self.assertNotIsInstance(node.value, (float, complex), (name, node.lineno))

    def test_module_level(self):
        for name, tree in self.trees.items():
            self.assertTrue(ast.get_docstring(tree), name)
            bound = []
            for node in tree.body[1:]:
                self.assertIsInstance(node, (ast.ImportFrom, ast.FunctionDef, ast.ClassDef, ast.Assign), name)
                if isinstance(node, ast.ImportFrom):
                    bound += [alias.asname or alias.name for alias in node.names]
                elif isinstance(node, ast.Assign):
                    self.assertTrue(plain(node.value, tree, node.lineno), (name, node.lineno))
                    bound += [target.id for target in node.targets]
                else:
                    bound.append(node.name)
            self.assertEqual(sorted(set(bound)), sorted(bound), name)

    def test_imports(self):
        needed = {name: set() for name in self.trees}
        for name, node in self.nodes():
            if isinstance(node, ast.ImportFrom):
                self.assertEqual(node.level, 0)
                package, _, file = node.module.partition(".")
                self.assertEqual(package, "fascicle", name)
                module = importlib.import_module(node.module)
                for alias in node.names:
                    found = getattr(module, alias.name)
                    self.assertEqual(getattr(found, "__module__", node.module), node.module)
                    used = [n for n in ast.walk(self.trees[name]) if isinstance(n, ast.Name) and n.id == alias.name]
                    self.assertTrue(used, (name, alias.name))
                needed[name].add(file)
        while needed:
            free = [name for name, others in needed.items() if not others & set(needed)]
            self.assertTrue(free, needed)
            for name in free:
                del needed[name]

    def test_builtins_and_methods(self):
        own = {node.name for _, node in self.nodes() if isinstance(node, ast.FunctionDef)}
        for name, node in self.nodes():
            if isinstance(node, ast.Name) and hasattr(builtins, node.id):
                self.assertIn(node.id, BUILTINS, (name, node.lineno))
                self.assertIsInstance(node.ctx, ast.Load, (name, node.lineno))
            if isinstance(node, ast.Call) and isinstance(node.func, ast.Attribute):
                self.assertIn(node.func.attr, METHODS | own, (name, node.lineno))

    def test_local_names(self):
        for name, tree in self.trees.items():
            outer = set(dir(builtins))
            for node in ast.walk(tree):
                if isinstance(node, ast.ImportFrom):
                    outer |= {alias.asname or alias.name for alias in node.names}
                if isinstance(node, ast.ClassDef):
                    outer.add(node.name)
            local = {node.arg for node in ast.walk(tree) if isinstance(node, ast.arg)}
            for node in ast.walk(tree):
                if isinstance(node, ast.Name) and isinstance(node.ctx, ast.Store):
                    local.add(node.id)
            self.assertEqual(local & (outer | NOT_USED), set(), name)

    def test_words_and_strings(self):
        for name, text in self.texts.items():
            for token in tokenize.generate_tokens(io.StringIO(text).readline):
                if token.type == tokenize.NAME:
                    self.assertNotIn(token.string, NOT_USED, name)
                if token.type == tokenize.STRING:
                    self.assertNotIn("%", token.string, name)
                    self.assertEqual(re.findall(r"\\[^nt\\\"']", token.string), [], name)

    def test_the_interface_stands_in_its_files(self):
        for file, names in INTERFACE.items():
            defined = {node.name for node in self.trees[file].body if isinstance(node, (ast.FunctionDef, ast.ClassDef))}
            self.assertEqual(set(names) - defined, set(), file)

        for (file, name), methods in INTERFACE_METHODS.items():
            (found,) = [node for node in self.trees[file].body if isinstance(node, ast.ClassDef) and node.name == name]
            defined = {node.name for node in found.body if isinstance(node, ast.FunctionDef)}
            self.assertEqual(set(methods) - defined, set(), name)

    def test_no_method_and_attribute_of_one_name(self):
        stored, methods = set(), set()
        for _, node in self.nodes():
            if isinstance(node, ast.Attribute) and isinstance(node.ctx, ast.Store):
                stored.add(node.attr)
            if isinstance(node, ast.ClassDef):
                methods |= {part.name for part in node.body if isinstance(part, ast.FunctionDef)}
        self.assertEqual(stored & (methods | METHODS), set())
        read = {node.attr for _, node in self.nodes() if isinstance(node, ast.Attribute)}
        self.assertEqual(read - stored - methods - METHODS, set())

    def test_every_function_and_class_has_a_docstring(self):
        for name, node in self.nodes():
            if isinstance(node, (ast.FunctionDef, ast.ClassDef)) and getattr(node, "name", "") != "__init__":
                self.assertTrue(ast.get_docstring(node), (name, node.name))


if __name__ == "__main__":
    unittest.main()
