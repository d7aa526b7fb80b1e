"""The files of the package keep to the rules of LANGUAGE.md, as far as a test can see them; and the interface stands."""

import ast
import builtins
import functools
import io
import pathlib
import re
import tokenize
import unittest

PACKAGE = pathlib.Path(__file__).resolve().parent.parent / "sheafbooks"
BUILTINS = set("""len range enumerate zip min max sum abs sorted reversed int str bool list tuple dict set isinstance ord
    repr any all divmod ValueError KeyError iter next""".split())
METHODS = set("""append clear copy count endswith extend find get index insert isalnum isalpha isdigit islower isspace
    isupper items join keys ljust lower lstrip partition pop remove replace reverse rfind rjust rpartition rsplit rstrip
    setdefault split splitlines startswith strip update upper values zfill bit_length add discard""".split())
WORDS = set("""type typing typing_extensions enum Enum IntEnum StrEnum Flag IntFlag Generic Protocol ABC ABCMeta
    namedtuple NamedTuple TypedDict TYPE_CHECKING abstractmethod""".split())
NAMES = set("""register mro elements open input law version_info with_traceback add_note""".split())
STATEMENTS = (ast.Assign, ast.AugAssign, ast.If, ast.While, ast.For, ast.Return, ast.Break, ast.Continue, ast.Pass,
              ast.Raise, ast.Assert, ast.Delete, ast.Expr, ast.FunctionDef, ast.ClassDef, ast.ImportFrom, ast.Try)
INTERFACE = {
    "errors": "SheafError NoPart NoNode NoForm NoEdition NoKey NoDeed There InUse TooLong Unsound Unlawful BadRow",
    "facets": "is_facets is_setting is_case settings_in whole_case common without",
    "whens": "is_when holds told_in",
    "cases": "cases_of shows_cases",
    "models": "is_model kinds_of fits first_bad unlike_row",
    "parts": "is_part elements_of things_of named",
    "puts": "lost_puts ring_of_puts shows_ring put_in how_great",
    "lawful": "is_rules left_in faults_in",
    "judging": "judged shows_lawful shows_unlawful",
    "plans": "is_plan nodes_of node_at way_to nodes_left",
    "keys": "marks_in key_at ring_of_keys shows_key_ring worth_at lost_keys",
    "soundness": "unsound",
    "books": "book_of number_text",
    "numbers": "is_counts numbers_of",
    "refs": "meant_by ref_text lost_refs",
    "indexes": "index_of sees",
    "reads": "reads_of rows_by index_rows",
    "maker": "Maker",
    "house": "House",
    "texts": "part_text part_in",
    "desk": "answers",
}
CLASSES = {
    "Maker": "make kept reads forget twin __init__ __eq__ __len__",
    "House": """part drop node unnode set_keys edition end make undo parts plan editions book entries lost rows
        lawful_in_all deeds as_of twin log is_open __init__ __eq__ __len__""",
}
UNDERSCORED = ("__init__", "__eq__", "__len__")


def files():
    return sorted(path for path in PACKAGE.iterdir() if path.name != "__pycache__")


@functools.cache
def parsed():
    return [(path, path.read_text(encoding="utf-8"), ast.parse(path.read_text(encoding="utf-8"))) for path in files()]


def bound(tree):
    """Every name that is bound anywhere in a file, as pairs (name, line)."""
    told = []
    for node in ast.walk(tree):
        if isinstance(node, (ast.FunctionDef, ast.ClassDef)):
            told.append((node.name, node.lineno))
        elif isinstance(node, ast.arg):
            told.append((node.arg, node.lineno))
        elif isinstance(node, ast.Name) and not isinstance(node.ctx, ast.Load):
            told.append((node.id, node.lineno))
        elif isinstance(node, ast.alias):
            told.append((node.asname or node.name, node.lineno))
        elif isinstance(node, ast.ExceptHandler) and node.name:
            told.append((node.name, node.lineno))
    return told


def module_names(tree):
    """The names bound at module level, in order."""
    told = []
    for node in tree.body:
        if isinstance(node, (ast.FunctionDef, ast.ClassDef)):
            told.append(node.name)
        elif isinstance(node, ast.Assign):
            told += [target.id for target in node.targets]
        elif isinstance(node, ast.ImportFrom):
            told += [alias.asname or alias.name for alias in node.names]
    return told


class Language(unittest.TestCase):
    def each(self, kind):
        for path, text, tree in parsed():
            for node in ast.walk(tree):
                if isinstance(node, kind):
                    yield f"{path.name}:{getattr(node, 'lineno', 0)}", node

    def test_files_and_signs(self):
        for path, text, tree in parsed():
            self.assertRegex(path.name, r"^[a-z_][a-z0-9_]*\.py$")
            self.assertRegex(text, r"\A[ -~\n]*\Z", path.name)
            self.assertNotIn(path.stem, dir(builtins))

    def test_sizes(self):
        for path, text, tree in parsed():
            self.assertLessEqual(len(text.splitlines()), 399)
            self.assertLessEqual(max([len(row) for row in text.splitlines()]), 120, path.name)
        for where, node in self.each(ast.FunctionDef):
            self.assertLessEqual(node.end_lineno - node.lineno + 1, 40, where)

    def test_imports(self):
        reads = {}
        for path, text, tree in parsed():
            reads[path.stem] = set()
            for node in ast.walk(tree):
                self.assertNotIsInstance(node, ast.Import)
                if isinstance(node, ast.ImportFrom):
                    self.assertIn(node, tree.body)
                    self.assertEqual((node.level, node.module.split(".")[0]), (0, "sheafbooks"))
                    source = node.module.split(".")[1]
                    reads[path.stem].add(source)
                    defined = ast.parse((PACKAGE / f"{source}.py").read_text())
                    here = module_names(ast.Module([n for n in defined.body if not isinstance(n, ast.ImportFrom)], []))
                    for alias in node.names:
                        self.assertIn(alias.name, here)
        while reads:
            free = [name for name in reads if not reads[name] & set(reads)]
            self.assertTrue(free, f"a ring of imports: {reads}")
            for name in free:
                del reads[name]

    def test_module_level(self):
        for path, text, tree in parsed():
            for node in tree.body:
                docstring = isinstance(node, ast.Expr) and isinstance(node.value, ast.Constant)
                known = isinstance(node, (ast.ImportFrom, ast.FunctionDef, ast.ClassDef, ast.Assign))
                self.assertTrue(docstring or known, path.name)
                if isinstance(node, ast.Assign):
                    self.check_plain(node, tree)
            names = module_names(tree)
            self.assertEqual(len(names), len(set(names)), path.name)

    def check_plain(self, assigned, tree):
        """A module-level value is plain, or a table of functions that are defined above it."""
        above = [node.name for node in tree.body if isinstance(node, ast.FunctionDef) and node.lineno < assigned.lineno]
        table = assigned.value
        if isinstance(table, ast.Dict) and all(isinstance(one, ast.Name) for one in table.values):
            self.assertTrue({one.id for one in table.values} <= set(above))
            self.assertTrue(all(isinstance(one, ast.Constant) for one in table.keys))
        else:
            ast.literal_eval(table)

    def test_statements(self):
        for where, node in self.each(ast.stmt):
            self.assertIsInstance(node, STATEMENTS, where)
        handed = [star.value for _, call in self.each(ast.Call) for star in call.args if isinstance(star, ast.Starred)]
        self.assertTrue(all(isinstance(one, ast.Name) for one in handed))
        for where, node in self.each((ast.GeneratorExp, ast.Yield, ast.Div, ast.JoinedStr)):
            self.fail(where)
        stars = [node for _, node in self.each(ast.Starred) if isinstance(node.ctx, ast.Load)]
        self.assertEqual(len(stars), len(handed))
        for where, node in self.each(ast.FunctionDef):
            self.assertEqual(node.decorator_list, [], where)

    def test_names(self):
        for path, text, tree in parsed():
            owned = [node.name for node in tree.body if isinstance(node, ast.ClassDef)]
            owned += [alias.name for node in tree.body if isinstance(node, ast.ImportFrom) for alias in node.names]
            for name, line in bound(tree):
                where = f"{path.name}:{line} {name}"
                self.assertTrue(name in UNDERSCORED or re.fullmatch("[A-Za-z][A-Za-z0-9_]*", name), where)
                self.assertNotIn(name, dir(builtins), where)
                self.assertNotIn(name, NAMES, where)
            for function in [node for node in ast.walk(tree) if isinstance(node, ast.FunctionDef)]:
                local = [node.arg for node in ast.walk(function) if isinstance(node, ast.arg)]
                local += [node.id for node in ast.walk(function)
                          if isinstance(node, ast.Name) and isinstance(node.ctx, ast.Store)]
                self.assertFalse(set(local) & set(owned), f"{path.name} {function.name}")

    def test_builtins_and_methods(self):
        methods = METHODS | self.own_methods()
        for path, text, tree in parsed():
            here = {name for name, line in bound(tree)}
            for node in ast.walk(tree):
                if isinstance(node, ast.Name) and node.id not in here:
                    self.assertIn(node.id, BUILTINS, f"{path.name}:{node.lineno}")
                if isinstance(node, ast.Call) and isinstance(node.func, ast.Attribute):
                    self.assertIn(node.func.attr, methods, f"{path.name}:{node.lineno}")

    def own_methods(self):
        classes = [node for _, node in self.each(ast.ClassDef)]
        return {one.name for node in classes for one in node.body if isinstance(one, ast.FunctionDef)}

    def test_methods_and_attributes(self):
        """No name is both (L18), attributes that are read are assigned somewhere, methods are called where they stand."""
        own = self.own_methods()
        assigned = {node.attr for _, node in self.each(ast.Attribute) if not isinstance(node.ctx, ast.Load)}
        self.assertFalse(assigned & (own | METHODS))
        called = {node.func for _, node in self.each(ast.Call)}
        for where, node in self.each(ast.Attribute):
            if node not in called:
                self.assertIn(node.attr, assigned, where)
        for name in own - set(UNDERSCORED):
            self.assertFalse(any(hasattr(kind, name) for kind in (str, int, list, dict, set, bytes, tuple)), name)

    def test_classes(self):
        for where, node in self.each(ast.ClassDef):
            for one in node.body:
                docstring = isinstance(one, ast.Expr) and isinstance(one.value, ast.Constant)
                self.assertTrue(docstring or isinstance(one, ast.FunctionDef), where)
        for where, node in self.each(ast.FunctionDef):
            changing = [one for one in ast.walk(node) if isinstance(one, (ast.Assign, ast.AugAssign, ast.Delete))]
            if node.name in ("__eq__", "__len__"):
                self.assertEqual(changing, [], where)
                self.assertIsInstance(node.body[-1], ast.Return, where)
            if node.name == "__len__":
                self.assertEqual(node.body[-1].value.func.id, "len", where)

    def test_finally_and_handlers(self):
        """A finally appends a plain tuple alone; what is caught is an own error."""
        errors = set(INTERFACE["errors"].split())
        for where, node in self.each(ast.Try):
            for one in node.finalbody:
                self.assertEqual((one.value.func.attr, type(one.value.args[0])), ("append", ast.Tuple), where)
                self.assertTrue(all(isinstance(x, (ast.Constant, ast.Name)) for x in one.value.args[0].elts), where)
            for handler in node.handlers:
                self.assertIn(handler.type.id, errors, where)
        for where, node in self.each(ast.Raise):
            self.assertIn(node.exc.func.id, errors, where)

    def test_words_that_do_not_occur(self):
        for path, text, tree in parsed():
            self.assertFalse(set(re.findall(r"\w+", text)) & WORDS, path.name)
            self.assertNotRegex(text, "dataclass|overload|contextmanager")

    def test_strings(self):
        for path, text, tree in parsed():
            for token in tokenize.generate_tokens(io.StringIO(text).readline):
                if token.type == tokenize.STRING:
                    self.assertNotIn("%", token.string, path.name)
                    self.assertNotRegex(token.string, r"\\[^nt\\'\"]", path.name)

    def test_is_only_of_none_true_false(self):
        for where, node in self.each(ast.Compare):
            for sign, other in zip(node.ops, node.comparators):
                if isinstance(sign, (ast.Is, ast.IsNot)):
                    self.assertTrue(isinstance(other, ast.Constant) and other.value in (None, True, False), where)

    def test_interface(self):
        for name, wanted in INTERFACE.items():
            tree = ast.parse((PACKAGE / f"{name}.py").read_text())
            defined = [node.name for node in tree.body if isinstance(node, (ast.FunctionDef, ast.ClassDef))]
            for one in wanted.split():
                self.assertIn(one, defined, name)

    def test_interface_of_classes(self):
        for _, node in self.each(ast.ClassDef):
            defined = [one.name for one in node.body if isinstance(one, ast.FunctionDef)]
            self.assertEqual(len(defined), len(set(defined)))
            self.assertTrue(set(CLASSES.get(node.name, "").split()) <= set(defined), node.name)
        self.assertTrue(set(CLASSES) <= {node.name for _, node in self.each(ast.ClassDef)})


if __name__ == "__main__":
    unittest.main()
