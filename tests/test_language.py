"""What of ../shared/LANGUAGE.md a short look at the syntax can check; the rest is up to the reader."""

import ast
import builtins
import pathlib
import unittest

FOLDER = pathlib.Path(__file__).resolve().parent.parent / "latebound"
LIBRARY = {
    "heapq": {"heappush", "heappop", "heapify", "heapreplace", "heappushpop"},
    "math": {"gcd", "lcm", "isqrt", "comb", "perm", "factorial"},
    "itertools": {"product", "combinations", "permutations"},
}
BUILTINS = set("""len range enumerate zip min max sum abs sorted reversed int str bool bytes list tuple dict set frozenset
    isinstance ord repr any all divmod iter next map super property staticmethod classmethod NotImplemented
    Exception ValueError TypeError KeyError IndexError LookupError ZeroDivisionError ArithmeticError OverflowError
    RuntimeError NotImplementedError AttributeError StopIteration""".split())
BARRED = set("register mro elements open input law version_info with_traceback add_note".split())
BARRED_AS_NAMES = set("""attrgetter breakpoint builtins compile copyright credits delattr dir eval exec exit gc getattr
    globals hasattr help id importlib license locals methodcaller os quit setattr super type vars sys""".split())
METHODS = set("""__init__ __eq__ __repr__ __str__ __len__ __enter__ __exit__ __call__ __iter__ __lt__ __le__ __gt__
    __ge__ __ne__ __contains__ __bool__""".split())

BUILTIN_METHODS = set("""append clear copy count endswith extend find get index insert isalnum isalpha isdigit islower
    isspace isupper items join keys ljust lower lstrip partition pop remove replace reverse rfind rjust rpartition rsplit
    rstrip setdefault split splitlines startswith strip update upper values zfill bit_length""".split())


def files():
    found = []
    for path in sorted(FOLDER.glob("*.py")):
        text = path.read_text(encoding="utf-8")
        found.append((path.name, text, ast.parse(text)))
    return found


def functions(tree):
    return [node for node in ast.walk(tree) if isinstance(node, ast.FunctionDef)]


def module_names(tree):
    """All names that are bound at module level, imports included."""
    names = []
    for node in tree.body:
        if isinstance(node, (ast.FunctionDef, ast.ClassDef)):
            names.append(node.name)
        elif isinstance(node, ast.ImportFrom):
            names += [part.asname or part.name for part in node.names]
        elif isinstance(node, ast.Assign):
            names += [target.id for target in node.targets]
    return names


def bound_names(tree):
    """Names of parameters, variables, functions and classes."""
    names = []
    for node in ast.walk(tree):
        if isinstance(node, ast.arg):
            names.append(node.arg)
        elif isinstance(node, ast.Name) and isinstance(node.ctx, ast.Store):
            names.append(node.id)
        elif isinstance(node, (ast.FunctionDef, ast.ClassDef)):
            names.append(node.name)
    return names


class LanguageTest(unittest.TestCase):

    def test_one_folder_of_plain_files(self):
        others = [path.name for path in FOLDER.iterdir() if path.suffix != ".py" and path.name != "__pycache__"]
        self.assertEqual(others, [])
        for name, _, _ in files():
            self.assertRegex(name, r"^(__init__|[a-z][a-z0-9_]*)\.py$")

    def test_size_and_characters(self):
        for name, text, tree in files():
            lines = text.splitlines()
            self.assertLessEqual(len(lines), 399, name)
            self.assertLessEqual(max(len(line) for line in lines), 120, name)
            self.assertEqual([letter for letter in text if letter != "\n" and not " " <= letter <= "~"], [], name)
            for node in functions(tree):
                self.assertLessEqual(node.end_lineno - node.lineno + 1, 40, (name, node.name))

    def test_imports(self):
        for name, _, tree in files():
            for node in ast.walk(tree):
                self.assertNotIsInstance(node, ast.Import, name)
                if isinstance(node, ast.ImportFrom):
                    self.assertIn(node, tree.body)
                    parts = {part.name for part in node.names}
                    near = node.level == 0 and node.module.startswith("latebound.") and "*" not in parts
                    self.assertTrue(near or parts <= LIBRARY.get(node.module, set()), (name, node.module))

    def test_each_import_names_the_file_that_defines_it_without_rings(self):
        trees = {"latebound." + name[:-3]: tree for name, _, tree in files()}
        above = {}
        for module, tree in trees.items():
            nodes = [node for node in tree.body if isinstance(node, ast.ImportFrom) and node.module in trees]
            above[module] = {node.module for node in nodes}
            for node in nodes:
                defined = [part.name for part in trees[node.module].body if hasattr(part, "name")]
                defined += [name for name in module_names(trees[node.module]) if name.isupper()]
                self.assertLessEqual({part.name for part in node.names}, set(defined), (module, node.module))
        while above:
            free = [module for module in above if not above[module] & set(above)]
            self.assertTrue(free, above)
            for module in free:
                del above[module]

    def test_each_import_is_used(self):
        for name, _, tree in files():
            read = {node.id for node in ast.walk(tree) if isinstance(node, ast.Name)}
            for node in tree.body:
                if isinstance(node, ast.ImportFrom):
                    self.assertLessEqual({part.name for part in node.names}, read, name)

    def test_names_of_itertools_are_only_called(self):
        for name, _, tree in files():
            taken = LIBRARY["itertools"]
            called = [node.func for node in ast.walk(tree) if isinstance(node, ast.Call)]
            read = [node for node in ast.walk(tree) if isinstance(node, ast.Name) and node.id in taken]
            self.assertEqual([node for node in read if node not in called], [], name)

    def test_names(self):
        for name, _, tree in files():
            own = module_names(tree)
            self.assertEqual(len(own), len(set(own)), name)
            self.assertEqual(set(bound_names(tree)) & set(dir(builtins)), set(), name)
            self.assertEqual(set(bound_names(tree)) & (BARRED | BARRED_AS_NAMES), set(), name)
            unbarred = {node.attr for node in ast.walk(tree) if isinstance(node, ast.Attribute)}
            self.assertEqual(unbarred & BARRED, set(), name)
            taken = {part for part in own if part[0].isupper() and not part.isupper()}
            taken |= {part.name for node in tree.body if isinstance(node, ast.ImportFrom) for part in node.names}
            local = set(bound_names(ast.Module([part for node in functions(tree) for part in node.body], [])))
            local |= {node.arg for node in ast.walk(tree) if isinstance(node, ast.arg)}
            self.assertEqual(local & taken, set(), name)

    def test_builtins(self):
        for name, _, tree in files():
            read = {node.id for node in ast.walk(tree) if isinstance(node, ast.Name) and isinstance(node.ctx, ast.Load)}
            self.assertLessEqual(read & set(dir(builtins)), BUILTINS, name)

    def test_methods_that_are_called(self):
        """They are the package's own, or those of L25."""
        classes = [node for _, _, tree in files() for node in tree.body if isinstance(node, ast.ClassDef)]
        own = {node.name for part in classes for node in part.body if isinstance(node, ast.FunctionDef)}
        for name, _, tree in files():
            for node in ast.walk(tree):
                if isinstance(node, ast.Call) and isinstance(node.func, ast.Attribute):
                    self.assertIn(node.func.attr, own | BUILTIN_METHODS, (name, node.lineno))

    def test_methods_are_called_where_they_stand(self):
        classes = [node for _, _, tree in files() for node in tree.body if isinstance(node, ast.ClassDef)]
        own = {node.name for part in classes for node in part.body if isinstance(node, ast.FunctionDef)}
        for name, _, tree in files():
            called = [node.func for node in ast.walk(tree) if isinstance(node, ast.Call)]
            for node in ast.walk(tree):
                if isinstance(node, ast.Attribute) and node.attr in own | BUILTIN_METHODS:
                    self.assertIn(node, called, (name, node.lineno))

    def test_no_name_is_a_method_and_an_attribute(self):
        methods, attributes = set(), set()
        for _, _, tree in files():
            for node in ast.walk(tree):
                if isinstance(node, ast.ClassDef):
                    methods |= {part.name for part in node.body if isinstance(part, ast.FunctionDef)}
                elif isinstance(node, ast.Attribute) and isinstance(node.ctx, ast.Store):
                    attributes.add(node.attr)
        self.assertEqual(methods & attributes, set())

    def test_no_loop_changes_what_it_goes_over(self):
        """As far as both are plain names."""
        changing = {"append", "clear", "extend", "insert", "pop", "remove", "reverse", "setdefault", "update"}
        for name, _, tree in files():
            for loop in ast.walk(tree):
                if isinstance(loop, ast.For):
                    over = {node.id for node in ast.walk(loop.iter) if isinstance(node, ast.Name)}
                    for node in [part for row in loop.body for part in ast.walk(row)]:
                        if isinstance(node, ast.Attribute) and node.attr in changing:
                            self.assertNotIn(getattr(node.value, "id", None), over, (name, node.lineno))
                        if isinstance(node, ast.Subscript) and not isinstance(node.ctx, ast.Load):
                            self.assertNotIn(getattr(node.value, "id", None), over, (name, node.lineno))

    def test_double_underscores(self):
        for name, _, tree in files():
            for node in functions(tree):
                if node.name.startswith("__"):
                    self.assertIn(node.name, METHODS, name)

    def test_signs(self):
        barred = (ast.Global, ast.AsyncFunctionDef, ast.Await, ast.Div)
        for name, _, tree in files():
            for node in ast.walk(tree):
                if isinstance(node, ast.Constant):
                    self.assertNotIsInstance(node.value, (float, complex), name)
                    if isinstance(node.value, str):
                        self.assertNotIn("%", node.value, name)
                self.assertNotIsInstance(node, barred, name)

    def test_sets_are_not_iterated_or_kept(self):
        """A set stands in len, in sorted, or behind in or ==."""
        for name, _, tree in files():
            for node in ast.walk(tree):
                for child in ast.iter_child_nodes(node):
                    called = isinstance(child, ast.Call) and isinstance(child.func, ast.Name) and child.func.id == "set"
                    if called and isinstance(node, ast.Call):
                        self.assertIn(node.func.id, ("len", "sorted"), name)

    def test_generator_expressions_are_lists(self):
        """Once a class has __eq__, any, all and the like take a list: so they do from the beginning."""
        for name, _, tree in files():
            for node in ast.walk(tree):
                self.assertNotIsInstance(node, ast.GeneratorExp, name)


if __name__ == "__main__":
    unittest.main()
