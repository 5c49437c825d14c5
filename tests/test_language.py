"""What can be counted of the rules that the package is written by: sizes, signs, imports, names."""

import ast
import builtins
import pathlib
import unittest

PACKAGE = pathlib.Path(__file__).resolve().parent.parent / "sameticks"
BUILTINS = (
    "len", "range", "enumerate", "zip", "min", "max", "sum", "abs", "sorted", "reversed", "int", "str", "bool",
    "list", "tuple", "dict", "set", "isinstance", "ord", "repr", "any", "all", "divmod", "ValueError",
)
METHODS_OF_VALUES = (
    "append clear copy count endswith extend find get index insert isalnum isalpha isdigit islower isspace isupper "
    "items join keys ljust lower lstrip partition pop remove replace reverse rfind rjust rpartition rsplit rstrip "
    "setdefault split splitlines startswith strip update upper values zfill bit_length"
).split()
# Those of deques that are no methods of other values.
METHODS_OF_DEQUES = ("appendleft", "popleft", "extendleft", "rotate")
LIBRARY = {
    "heapq": ("heappush", "heappop", "heapify", "heapreplace", "heappushpop"),
    "math": ("gcd", "lcm", "isqrt", "comb", "perm", "factorial"),
    "itertools": (
        "product", "combinations", "permutations", "chain", "accumulate", "pairwise", "islice", "zip_longest",
    ),
    "collections": ("defaultdict", "deque"),
}


def files():
    return sorted(PACKAGE.rglob("*.py"))


def trees():
    return [(path.name, ast.parse(path.read_text(encoding="ascii"))) for path in files()]


def names_known(tree):
    """All names that a file binds anywhere."""
    known = set()
    for node in ast.walk(tree):
        if isinstance(node, (ast.FunctionDef, ast.ClassDef)):
            known.add(node.name)
        if isinstance(node, ast.arg):
            known.add(node.arg)
        if isinstance(node, ast.alias):
            known.add(node.name)
        if isinstance(node, ast.Name) and isinstance(node.ctx, ast.Store):
            known.add(node.id)
    return known


def names_of_attributes(context):
    """The attributes that are assigned (ast.Store) or read (ast.Load) anywhere."""
    return {
        node.attr for _, tree in trees() for node in ast.walk(tree)
        if isinstance(node, ast.Attribute) and isinstance(node.ctx, context)
    }


def imports_deque(tree):
    return any(
        isinstance(node, ast.ImportFrom) and node.module == "collections"
        and "deque" in [alias.name for alias in node.names]
        for node in tree.body
    )


def names_of_methods():
    return {
        method.name for _, tree in trees() for node in tree.body if isinstance(node, ast.ClassDef)
        for method in node.body if isinstance(method, ast.FunctionDef)
    }


class Language(unittest.TestCase):

    def test_the_package_holds_nothing_but_its_files(self):
        for path in PACKAGE.rglob("*"):
            if path.name != "__pycache__" and path.suffix != ".pyc":
                self.assertTrue(path.is_dir() or path.suffix == ".py", path)

    def test_files_are_short_and_their_signs_plain(self):
        for path in files():
            data = path.read_bytes()
            self.assertTrue(all(code == 10 or 32 <= code <= 126 for code in data), path)
            lines = data.decode("ascii").split("\n")
            self.assertLessEqual(len(lines), 399, path)
            self.assertLessEqual(max(len(line) for line in lines), 120, path)

    def test_functions_are_short(self):
        for name, tree in trees():
            for node in ast.walk(tree):
                if isinstance(node, ast.FunctionDef):
                    self.assertLessEqual(node.end_lineno - node.lineno + 1, 40, (name, node.name))

    def test_imports_name_the_file_that_defines_the_name(self):
        defined = {module: set(names) for module, names in LIBRARY.items()}
        for path in files():
            module = ".".join(path.relative_to(PACKAGE.parent).with_suffix("").parts)
            tree = ast.parse(path.read_text(encoding="ascii"))
            defined[module] = set()
            for node in tree.body:
                if isinstance(node, (ast.FunctionDef, ast.ClassDef)):
                    defined[module].add(node.name)
                if isinstance(node, ast.Assign):
                    defined[module].add(node.targets[0].id)
        for name, tree in trees():
            for node in ast.walk(tree):
                self.assertNotIsInstance(node, ast.Import, name)
                if isinstance(node, ast.ImportFrom):
                    self.assertIn(node.module, defined, name)
                    self.assertIn(node, tree.body, name)
                    for alias in node.names:
                        self.assertIn(alias.name, defined[node.module], name)

    def test_only_few_builtins_are_used_and_none_is_hidden(self):
        for name, tree in trees():
            known = names_known(tree)
            self.assertEqual(known.intersection(dir(builtins)), set(), name)
            for node in ast.walk(tree):
                if isinstance(node, ast.Name) and isinstance(node.ctx, ast.Load) and node.id not in known:
                    self.assertIn(node.id, BUILTINS, name)

    def test_all_attributes_are_methods_or_assigned_somewhere(self):
        builtin = {*METHODS_OF_VALUES, *METHODS_OF_DEQUES}
        known = names_of_methods() | names_of_attributes(ast.Store) | builtin
        self.assertEqual(names_of_attributes(ast.Load) - known, set())
        self.assertEqual(names_of_attributes(ast.Store) & builtin, set())

    def test_methods_of_deques_only_stand_where_deques_are_imported(self):
        for name, tree in trees():
            if not imports_deque(tree):
                for node in ast.walk(tree):
                    if isinstance(node, ast.Attribute):
                        self.assertNotIn(node.attr, METHODS_OF_DEQUES, (name, node.lineno))

    def test_nothing_is_called_as_methods_of_deques_are(self):
        for name, tree in trees():
            self.assertEqual(names_known(tree).intersection(METHODS_OF_DEQUES), set(), name)

    def test_no_name_in_a_function_hides_one_of_its_file(self):
        for name, tree in trees():
            known = set()
            for node in tree.body:
                if isinstance(node, ast.ImportFrom):
                    known.update(alias.name for alias in node.names)
                if isinstance(node, (ast.FunctionDef, ast.ClassDef)):
                    known.add(node.name)
            for node in ast.walk(tree):
                if isinstance(node, ast.arg):
                    self.assertNotIn(node.arg, known, name)
                if isinstance(node, ast.Name) and isinstance(node.ctx, ast.Store):
                    self.assertNotIn(node.id, known, name)

    def test_modules_have_only_imports_definitions_and_values(self):
        for name, tree in trees():
            for number, node in enumerate(tree.body):
                if isinstance(node, ast.Expr):
                    self.assertEqual(number, 0, name)
                    self.assertIsInstance(node.value.value, str, name)
                elif isinstance(node, ast.Assign):
                    ast.literal_eval(node.value)
                else:
                    self.assertIsInstance(node, (ast.ImportFrom, ast.FunctionDef, ast.ClassDef), name)

    def test_no_string_has_the_sign_that_is_left_out(self):
        for name, tree in trees():
            for node in ast.walk(tree):
                if isinstance(node, ast.Constant) and isinstance(node.value, str):
                    self.assertNotIn("%", node.value, name)

    def test_no_statement_from_outside_the_language(self):
        for name, tree in trees():
            for node in ast.walk(tree):
                self.assertNotIsInstance(
                    node, (ast.AsyncFunctionDef, ast.Await, ast.AsyncFor, ast.AsyncWith, ast.Div), name
                )
                self.assertNotIsInstance(getattr(node, "value", None), (float, complex), name)


if __name__ == "__main__":
    unittest.main()
