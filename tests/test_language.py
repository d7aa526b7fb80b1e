"""The files of the package keep to the rules of LANGUAGE.md, as far as a test can see them; and the interface stands."""

import ast
import builtins
import io
import pathlib
import re
import tokenize
import unittest

PACKAGE = pathlib.Path(__file__).resolve().parent.parent / "sheafbooks"
BUILTINS = set("""len range enumerate zip min max sum abs sorted reversed int str bool list tuple dict set isinstance ord
    repr any all divmod ValueError KeyError iter next""".split())
METHODS = set("""append clear copy count endswith extend find get index insert isalnum isalpha isdigit islower isspace
    isupper items join keys ljust lower lstrip partition pop remove replace reverse rfind rjust rpartition rsplit rstrip
    setdefault split splitlines startswith strip update upper values zfill bit_length add discard""".split())
WORDS = set("""type typing typing_extensions enum Enum IntEnum StrEnum Flag IntFlag Generic Protocol ABC ABCMeta
    namedtuple NamedTuple TypedDict TYPE_CHECKING abstractmethod""".split())
NAMES = set("""register mro elements open input law version_info with_traceback add_note""".split())
STATEMENTS = (ast.Assign, ast.AugAssign, ast.If, ast.While, ast.For, ast.Return, ast.Break, ast.Continue, ast.Pass,
              ast.Raise, ast.Assert, ast.Delete, ast.Expr, ast.FunctionDef, ast.ClassDef, ast.ImportFrom, ast.Try)
INTERFACE = {
    "errors": "SheafError NoPart NoNode NoForm NoEdition NoKey NoDeed There InUse TooLong Unsound Unlawful BadRow",
    "facets": "is_facets is_setting is_case settings_in whole_case common without",
    "whens": "is_when holds told_in",
    "cases": "cases_of shows_cases",
    "models": "is_model kinds_of fits first_bad unlike_row",
    "parts": "is_part elements_of things_of named",
    "puts": "lost_puts ring_of_puts shows_ring put_in how_great",
    "lawful": "is_rules left_in faults_in",
    "judging": "judged shows_lawful shows_unlawful",
    "plans": "is_plan nodes_of node_at way_to nodes_left",
    "keys": "marks_in key_at ring_of_keys shows_key_ring worth_at lost_keys",
    "soundness": "unsound",
    "books": "book_of number_text",
    "numbers": "is_counts numbers_of",
    "refs": "meant_by ref_text lost_refs",
    "indexes": "index_of sees",
    "reads": "reads_of rows_by index_rows",
}


def files():
    return sorted(path for path in PACKAGE.iterdir() if path.name != "__pycache__")


def parsed():
    return [(path, path.read_text(encoding="utf-8"), ast.parse(path.read_text(encoding="utf-8"))) for path in files()]


def bound(tree):
    """Every name that is bound anywhere in a file, as pairs (name, line)."""
    told = []
    for node in ast.walk(tree):
        if isinstance(node, (ast.FunctionDef, ast.ClassDef)):
            told.append((node.name, node.lineno))
        elif isinstance(node, ast.arg):
            told.append((node.arg, node.lineno))
        elif isinstance(node, ast.Name) and not isinstance(node.ctx, ast.Load):
            told.append((node.id, node.lineno))
        elif isinstance(node, ast.alias):
            told.append((node.asname or node.name, node.lineno))
    return told


def module_names(tree):
    """The names bound at module level, in order."""
    told = []
    for node in tree.body:
        if isinstance(node, (ast.FunctionDef, ast.ClassDef)):
            told.append(node.name)
        elif isinstance(node, ast.Assign):
            told += [target.id for target in node.targets]
        elif isinstance(node, ast.ImportFrom):
            told += [alias.asname or alias.name for alias in node.names]
    return told


class Language(unittest.TestCase):
    def each(self, kind):
        for path, text, tree in parsed():
            for node in ast.walk(tree):
                if isinstance(node, kind):
                    yield f"{path.name}:{getattr(node, 'lineno', 0)}", node

    def test_files_and_signs(self):
        for path, text, tree in parsed():
            self.assertRegex(path.name, r"^[a-z_][a-z0-9_]*\.py$")
            self.assertRegex(text, r"\A[ -~\n]*\Z", path.name)
            self.assertNotIn(path.stem, dir(builtins))

    def test_sizes(self):
        for path, text, tree in parsed():
            self.assertLessEqual(len(text.splitlines()), 399)
            self.assertLessEqual(max([len(row) for row in text.splitlines()]), 120, path.name)
        for where, node in self.each(ast.FunctionDef):
            self.assertLessEqual(node.end_lineno - node.lineno + 1, 40, where)

    def test_imports(self):
        reads = {}
        for path, text, tree in parsed():
            reads[path.stem] = set()
            for node in ast.walk(tree):
                self.assertNotIsInstance(node, ast.Import)
                if isinstance(node, ast.ImportFrom):
                    self.assertIn(node, tree.body)
                    self.assertEqual((node.level, node.module.split(".")[0]), (0, "sheafbooks"))
                    source = node.module.split(".")[1]
                    reads[path.stem].add(source)
                    defined = ast.parse((PACKAGE / f"{source}.py").read_text())
                    here = module_names(ast.Module([n for n in defined.body if not isinstance(n, ast.ImportFrom)], []))
                    for alias in node.names:
                        self.assertIn(alias.name, here)
        while reads:
            free = [name for name in reads if not reads[name] & set(reads)]
            self.assertTrue(free, f"a ring of imports: {reads}")
            for name in free:
                del reads[name]

    def test_module_level(self):
        for path, text, tree in parsed():
            for node in tree.body:
                docstring = isinstance(node, ast.Expr) and isinstance(node.value, ast.Constant)
                known = isinstance(node, (ast.ImportFrom, ast.FunctionDef, ast.ClassDef, ast.Assign))
                self.assertTrue(docstring or known, path.name)
                if isinstance(node, ast.Assign):
                    ast.literal_eval(node.value)
            names = module_names(tree)
            self.assertEqual(len(names), len(set(names)), path.name)

    def test_statements(self):
        for where, node in self.each(ast.stmt):
            self.assertIsInstance(node, STATEMENTS, where)
        for where, node in self.each((ast.GeneratorExp, ast.Yield, ast.Div, ast.JoinedStr, ast.Starred)):
            self.assertTrue(isinstance(node, ast.Starred) and isinstance(node.ctx, ast.Store), where)
        for where, node in self.each(ast.FunctionDef):
            self.assertEqual(node.decorator_list, [], where)

    def test_names(self):
        for path, text, tree in parsed():
            owned = [node.name for node in tree.body if isinstance(node, ast.ClassDef)]
            owned += [alias.name for node in tree.body if isinstance(node, ast.ImportFrom) for alias in node.names]
            for name, line in bound(tree):
                where = f"{path.name}:{line} {name}"
                self.assertTrue(name == "__init__" or re.fullmatch("[A-Za-z][A-Za-z0-9_]*", name), where)
                self.assertNotIn(name, dir(builtins), where)
                self.assertNotIn(name, NAMES, where)
            for function in [node for node in ast.walk(tree) if isinstance(node, ast.FunctionDef)]:
                local = [node.arg for node in ast.walk(function) if isinstance(node, ast.arg)]
                local += [node.id for node in ast.walk(function)
                          if isinstance(node, ast.Name) and isinstance(node.ctx, ast.Store)]
                self.assertFalse(set(local) & set(owned), f"{path.name} {function.name}")

    def test_builtins_and_methods(self):
        for path, text, tree in parsed():
            here = {name for name, line in bound(tree)}
            for node in ast.walk(tree):
                if isinstance(node, ast.Name) and node.id not in here:
                    self.assertIn(node.id, BUILTINS, f"{path.name}:{node.lineno}")
                if isinstance(node, ast.Call) and isinstance(node.func, ast.Attribute):
                    self.assertIn(node.func.attr, METHODS, f"{path.name}:{node.lineno}")

    def test_words_that_do_not_occur(self):
        for path, text, tree in parsed():
            self.assertFalse(set(re.findall(r"\w+", text)) & WORDS, path.name)
            self.assertNotRegex(text, "dataclass|overload|contextmanager")

    def test_strings(self):
        for path, text, tree in parsed():
            for token in tokenize.generate_tokens(io.StringIO(text).readline):
                if token.type == tokenize.STRING:
                    self.assertNotIn("%", token.string, path.name)
                    self.assertNotRegex(token.string, r"\\[^nt\\'\"]", path.name)

    def test_is_only_of_none_true_false(self):
        for where, node in self.each(ast.Compare):
            for sign, other in zip(node.ops, node.comparators):
                if isinstance(sign, (ast.Is, ast.IsNot)):
                    self.assertTrue(isinstance(other, ast.Constant) and other.value in (None, True, False), where)

    def test_interface(self):
        for name, wanted in INTERFACE.items():
            tree = ast.parse((PACKAGE / f"{name}.py").read_text())
            defined = [node.name for node in tree.body if isinstance(node, (ast.FunctionDef, ast.ClassDef))]
            for one in wanted.split():
                self.assertIn(one, defined, name)


if __name__ == "__main__":
    unittest.main()
