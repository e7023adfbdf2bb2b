"""Rules of the Python subset that can be seen in the files of the package."""

import ast
import builtins
import pathlib
import unittest

FOLDER = pathlib.Path(__file__).resolve().parent.parent / "whererules"
FILES = sorted(FOLDER.glob("*.py"))
LIBRARY = {"itertools": {"combinations", "permutations", "product"}, "math": {"gcd", "lcm", "isqrt", "comb"}}
BUILTINS = {
    "len", "range", "enumerate", "zip", "min", "max", "sum", "abs", "sorted", "reversed", "int", "str", "bool", "list",
    "tuple", "dict", "isinstance", "any", "all", "divmod", "super", "property", "set",
    "ValueError", "KeyError"}
BARRED_WORDS = {
    "type", "typing", "typing_extensions", "enum", "Enum", "IntEnum", "StrEnum", "Flag", "IntFlag", "Generic",
    "Protocol", "ABC", "ABCMeta", "namedtuple", "NamedTuple", "TypedDict", "TYPE_CHECKING", "abstractmethod",
    "register", "mro", "elements", "open", "input", "law", "version_info", "with_traceback", "add_note"}
STATEMENTS = (
    ast.Assign, ast.AugAssign, ast.If, ast.While, ast.For, ast.Return, ast.Break, ast.Continue, ast.Pass, ast.Raise,
    ast.Expr, ast.FunctionDef, ast.ClassDef, ast.ImportFrom, ast.Try, ast.Assert, ast.Delete)
INTERFACE = {
    "errors": ["RuleError", "InvalidColumns", "InvalidRow", "InvalidTable", "InvalidRule", "InvalidRules",
               "InvalidGiven", "InvalidCells", "InvalidView", "InvalidSettled", "InvalidNumber", "InvalidValue",
               "NotAtPeace", "NotACertificate", "InvalidMark", "Full", "Broken", "AtWar"],
    "columns": ["is_columns", "is_row", "is_table"],
    "rules": ["is_rule", "is_rules", "matches"],
    "breaks": ["breaks", "holds", "fewest_out", "count_tree", "is_count_tree"],
    "peace": ["peaceful_row", "war", "is_war"],
    "following": ["follows", "tree", "against", "is_tree"],
    "splits": ["is_enough", "stuck", "is_stuck", "least_sets", "settles"],
    "covers": ["more_general", "needless", "cover", "is_cover"],
    "finding": ["found_rules"],
    "views": ["is_view", "view_rows", "view_follows", "view_trees", "view_against"],
    "fixes": ["next_steps", "run", "fix"],
    "starts": ["stop", "least_starts"],
    "desk": ["Desk"],
    "checker": ["check"],
    "faults": ["InvalidDraft", "InvalidCosts", "NotARecord"],
    "drafts": ["is_draft", "filling", "draft_war", "is_draft_war", "forced_cells"],
    "blames": ["can_stand", "blames", "least_corrections"],
    "mends": ["price", "mend", "price_tree", "cheaper_mend", "is_price_tree"],
    "fates": ["fates"],
    "mender": ["Mender"],
    "records": ["forced_record", "lists_record", "blame_record", "correction_record", "fate_record", "judge"],
}


def read(path):
    text = path.read_text(encoding="utf-8")
    return text, ast.parse(text)


def bound_at_top(module):
    """The names that a module binds, each as often as it does, with those that are classes or imports."""
    names, firm = [], []
    for node in module.body:
        if isinstance(node, (ast.FunctionDef, ast.ClassDef)):
            names.append(node.name)
        if isinstance(node, ast.ClassDef):
            firm.append(node.name)
        if isinstance(node, ast.ImportFrom):
            names += [alias.name for alias in node.names]
            firm += [alias.name for alias in node.names]
        if isinstance(node, ast.Assign):
            names += [target.id for target in node.targets]
    return names, firm


def local_names(module):
    """The names that functions bind, parameters included."""
    found = [node.id for node in ast.walk(module) if isinstance(node, ast.Name) and isinstance(node.ctx, ast.Store)]
    return found + [node.arg for node in ast.walk(module) if isinstance(node, ast.arg)]


class Language(unittest.TestCase):
    def test_the_folder_has_python_files_only(self):
        others = [path.name for path in FOLDER.iterdir() if path not in FILES and path.name != "__pycache__"]
        self.assertEqual(others, [])

    def test_characters_and_sizes(self):
        for path in FILES:
            text, module = read(path)
            self.assertTrue(all(" " <= one <= "~" or one == "\n" for one in text), path)
            lines = text.splitlines()
            self.assertLess(len(lines), 400, path)
            self.assertLessEqual(max(map(len, lines)), 120, path)
            for node in ast.walk(module):
                if isinstance(node, ast.FunctionDef):
                    self.assertLessEqual(node.end_lineno - node.lineno + 1, 40, node.name)

    def test_interface_stands_in_its_files(self):
        for name, told in INTERFACE.items():
            _, module = read(FOLDER / (name + ".py"))
            defined = [node.name for node in module.body if isinstance(node, (ast.FunctionDef, ast.ClassDef))]
            self.assertEqual([one for one in told if one not in defined], [])

    def test_imports(self):
        modules = ["whererules." + path.stem for path in FILES]
        for path in FILES:
            _, module = read(path)
            for node in ast.walk(module):
                self.assertNotIsInstance(node, ast.Import)
                if isinstance(node, ast.ImportFrom):
                    self.assertIn(node, module.body)
                    self.assertEqual(node.level, 0)
                    self.assertTrue(all(alias.asname is None for alias in node.names))
                    names = {alias.name for alias in node.names}
                    self.assertTrue(node.module in modules or names <= LIBRARY[node.module], node.module)

    def test_library_calls(self):
        names = set().union(*LIBRARY.values())
        for path in FILES:
            _, module = read(path)
            called = [node for node in ast.walk(module) if isinstance(node, ast.Call)
                      and isinstance(node.func, ast.Name) and node.func.id in names]
            used = [node for node in ast.walk(module) if isinstance(node, ast.Name) and node.id in names]
            self.assertEqual(len(called), len(used), "such a name is only called")
            for node in called:
                self.assertEqual(node.keywords, [])
                self.assertFalse(any(isinstance(argument, ast.Starred) for argument in node.args), path)

    def test_imports_go_one_way(self):
        below = {}
        for path in FILES:
            _, module = read(path)
            below[path.stem] = {node.module.split(".")[-1] for node in module.body
                                if isinstance(node, ast.ImportFrom) and node.module.startswith("whererules.")}
        while below:
            lowest = [name for name in below if not below[name] & set(below)]
            self.assertNotEqual(lowest, [], below)
            for name in lowest:
                del below[name]

    def test_names(self):
        for path in FILES:
            _, module = read(path)
            names, firm = bound_at_top(module)
            self.assertEqual(len(names), len(set(names)), path)
            self.assertEqual(set(local_names(module)) & set(firm), set(), path)
            told = set(names) | set(local_names(module))
            self.assertEqual(told & (BUILTINS | BARRED_WORDS | set(dir(builtins))), set(), path)
            used = {node.id for node in ast.walk(module) if isinstance(node, ast.Name)}
            self.assertLessEqual(used - told, BUILTINS, path)

    def test_words(self):
        for path in FILES:
            _, module = read(path)
            for node in ast.walk(module):
                if isinstance(node, ast.Attribute):
                    self.assertNotIn(node.attr, BARRED_WORDS)
                if isinstance(node, ast.Constant) and isinstance(node.value, str):
                    self.assertNotIn("%", node.value)
                    self.assertNotIn("\\", node.value)
                self.assertFalse(isinstance(node, ast.Constant) and isinstance(node.value, (float, complex)))

    def test_statements(self):
        for path in FILES:
            _, module = read(path)
            for node in ast.walk(module):
                if isinstance(node, ast.stmt):
                    self.assertIsInstance(node, STATEMENTS)
                if isinstance(node, ast.ClassDef):
                    self.assertEqual(node.decorator_list, [])
                if isinstance(node, ast.FunctionDef):
                    told = [one.id for one in node.decorator_list]
                    self.assertIn(told, [[], ["property"]])
                self.assertNotIsInstance(node, (ast.Yield, ast.YieldFrom, ast.Lambda, ast.Set, ast.SetComp, ast.Div))


if __name__ == "__main__":
    unittest.main()
