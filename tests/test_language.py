"""Some rules of the language of the package that can be read off its files."""

import ast
import builtins
import re
import unittest
from pathlib import Path

PACKAGE = Path(__file__).resolve().parent.parent / "levelroads"
FILES = sorted(PACKAGE.rglob("*.py"))
BUILTINS = set(
    "len range enumerate zip min max sum abs sorted reversed int str bool list tuple dict set isinstance ord repr any "
    "all divmod Exception ValueError TypeError KeyError IndexError LookupError ZeroDivisionError ArithmeticError "
    "OverflowError RuntimeError NotImplementedError property classmethod staticmethod".split())
LIBRARY = {"math": {"gcd", "lcm", "isqrt", "comb", "perm", "factorial"}}
METHODS = set(
    "append clear copy count endswith extend find get index insert isalnum isalpha isdigit islower isspace isupper "
    "items join keys ljust lower lstrip partition pop remove replace reverse rfind rjust rpartition rsplit rstrip "
    "setdefault split splitlines startswith strip update upper values zfill bit_length "
    "removeprefix removesuffix".split())
AT_ONCE = {"zip", "enumerate", "reversed", "range"}
TAKERS = {"list", "tuple", "dict", "sorted", "sum", "any", "all", "enumerate", "zip", "min", "max"}
BARRED = set(
    "register mro elements open input law version_info with_traceback add_note type typing enum Generic Protocol ABC "
    "namedtuple NamedTuple dataclass overload contextmanager eval exec globals locals vars".split())
CHANGES = {"append", "clear", "extend", "insert", "pop", "remove", "reverse", "setdefault", "update", "sort"}
CHANGING = {"__init__", "__enter__", "__exit__"}
SPECIAL = {"__init__", "__eq__", "__str__", "__len__", "__iter__", "__contains__", "__enter__", "__exit__"}


def told_names(tree):
    """All names that a file defines, as a dict from a name to how often the module level binds it."""
    bound = []
    for node in tree.body:
        if isinstance(node, (ast.FunctionDef, ast.ClassDef)):
            bound.append(node.name)
        elif isinstance(node, ast.ImportFrom):
            bound.extend(name.name for name in node.names)
        elif isinstance(node, ast.Assign):
            bound.extend(target.id for target in node.targets)
    return bound


def names_of(node):
    """The names of the lists for which an expression may stand itself."""
    if isinstance(node, ast.Name):
        return {node.id}
    if isinstance(node, ast.IfExp):
        return names_of(node.body) | names_of(node.orelse)
    if isinstance(node, ast.BoolOp):
        return {name for part in node.values for name in names_of(part)}
    if isinstance(node, (ast.Subscript, ast.Attribute)):
        return names_of(node.value)
    return set()


def walked_names(node):
    if isinstance(node, ast.Call) and getattr(node.func, "id", "") in ("zip", "enumerate", "reversed"):
        return {name for part in node.args for name in names_of(part)}
    if isinstance(node, ast.Call) and getattr(node.func, "attr", "") in ("items", "keys", "values"):
        return names_of(node.func.value)
    return names_of(node)


def changed_names(node):
    """The names of the lists that a part of a function changes, themselves or inside."""
    found = set()
    for one in ast.walk(node):
        if isinstance(one, ast.Call) and getattr(one.func, "attr", "") in CHANGES:
            found |= names_of(one.func.value)
        if isinstance(one, ast.Subscript) and not isinstance(one.ctx, ast.Load):
            found |= names_of(one.value)
        if isinstance(one, ast.AugAssign):
            found |= names_of(one.target)
    return found


def shared_names(function):
    """For each name all names that may stand for the same list, by plain assignments."""
    same = {}
    for node in ast.walk(function):
        if isinstance(node, ast.Assign):
            pairs = [(target, node.value) for target in node.targets]
            for target, value in list(pairs):
                if isinstance(target, ast.Tuple) and isinstance(value, ast.Tuple):
                    pairs += zip(target.elts, value.elts)
            for target, value in pairs:
                if isinstance(value, (ast.Name, ast.IfExp, ast.BoolOp)):
                    group = names_of(target) | names_of(value)
                    for name in list(group):
                        group |= same.get(name, set())
                    for name in group:
                        same[name] = group
    return same


def made_names(function):
    """The local names of a function that are only ever assigned a list or a dict that it makes."""
    made, other = set(), {one.arg for one in ast.walk(function) if isinstance(one, ast.arg)}
    for node in ast.walk(function):
        if isinstance(node, ast.Assign):
            for target in node.targets:
                if isinstance(target, ast.Name):
                    (made if makes_list(node.value) else other).add(target.id)
                elif isinstance(target, ast.Tuple):
                    other |= names_of(target) | {one.id for one in ast.walk(target) if isinstance(one, ast.Name)}
        elif isinstance(node, (ast.For, ast.comprehension)):
            other |= {one.id for one in ast.walk(node.target) if isinstance(one, ast.Name)}
    return made - other


def makes_list(node):
    if isinstance(node, ast.BinOp):
        return isinstance(node.op, (ast.Add, ast.Mult)) and (makes_list(node.left) or makes_list(node.right))
    if isinstance(node, ast.Call):
        return getattr(node.func, "id", "") in ("list", "dict", "sorted")
    if isinstance(node, ast.Subscript):
        return isinstance(node.slice, ast.Slice)
    return isinstance(node, (ast.List, ast.Dict, ast.ListComp, ast.DictComp))


def is_made(node, made):
    if isinstance(node, ast.Name):
        return node.id in made
    return isinstance(node, ast.Constant) or (isinstance(node, ast.Call) and getattr(node.func, "id", "") == "str")


class Language(unittest.TestCase):
    def each(self):
        for path in FILES:
            text = path.read_text(encoding="utf-8")
            tree = ast.parse(text)
            for node in ast.walk(tree):
                for child in ast.iter_child_nodes(node):
                    child.parent = node
            yield text, tree

    def test_files(self):
        for path in PACKAGE.rglob("*"):
            if path.name != "__pycache__" and path.parent.name != "__pycache__":
                self.assertTrue(path.is_dir() or path.suffix == ".py", path)
                self.assertRegex(path.stem, r"\A(__init__|[a-z][a-z0-9_]*)\Z")
                if path.is_dir():
                    self.assertTrue((path / "__init__.py").is_file(), path)
        self.assertLessEqual(len(FILES), 100)

    def test_sizes_and_characters(self):
        for text, tree in self.each():
            lines = text.split("\n")
            self.assertLessEqual(len(lines), 399)
            for line in lines:
                self.assertLessEqual(len(line), 120)
                self.assertRegex(line, r"\A[ -~]*\Z")
                self.assertEqual(line, line.rstrip())
            for node in ast.walk(tree):
                if isinstance(node, ast.FunctionDef):
                    self.assertLessEqual(node.end_lineno - node.lineno + 1, 40, node.name)

    def test_imports(self):
        for _, tree in self.each():
            ahead = True
            for node in tree.body:
                if isinstance(node, ast.ImportFrom):
                    self.assertTrue(ahead and node.level == 0)
                    self.check_import(node)
                elif not (isinstance(node, ast.Expr) and isinstance(node.value, ast.Constant)):
                    ahead = False
            for node in ast.walk(tree):
                self.assertNotIsInstance(node, ast.Import)

    def check_import(self, node):
        self.assertTrue(all(name.asname is None for name in node.names))
        names = {name.name for name in node.names}
        if node.module in LIBRARY:
            self.assertLessEqual(names, LIBRARY[node.module])
        else:
            path = PACKAGE.parent / (node.module.replace(".", "/") + ".py")
            defined = [one for one in ast.parse(path.read_text()).body if not isinstance(one, ast.ImportFrom)]
            self.assertLessEqual(names, set(told_names(ast.Module(defined, []))))

    def test_no_rings(self):
        """L16: no two files import from each other, directly or through others; and what is imported is used."""
        after = {}
        for path in FILES:
            tree = ast.parse(path.read_text())
            imports = [node for node in tree.body if isinstance(node, ast.ImportFrom)]
            after[".".join(path.relative_to(PACKAGE.parent).with_suffix("").parts)] = {
                node.module for node in imports if node.module not in LIBRARY}
            used = {node.id for node in ast.walk(tree) if isinstance(node, ast.Name)}
            self.assertLessEqual({name.name for node in imports for name in node.names}, used)
        while after:
            free = {name for name, wanted in after.items() if not wanted & set(after)}
            self.assertTrue(free, after)
            after = {name: wanted for name, wanted in after.items() if name not in free}

    def test_module_level(self):
        for _, tree in self.each():
            bound = told_names(tree)
            self.assertEqual(len(bound), len(set(bound)))
            for node in tree.body:
                if isinstance(node, ast.Expr):
                    self.assertIsInstance(node.value, ast.Constant)
                else:
                    self.assertIsInstance(node, (ast.ImportFrom, ast.FunctionDef, ast.ClassDef, ast.Assign))
                if isinstance(node, ast.Assign):
                    self.assertFalse([one for one in ast.walk(node.value) if isinstance(one, (ast.Call, ast.Lambda))])

    def test_names(self):
        for text, tree in self.each():
            outer = {name for node in tree.body if isinstance(node, (ast.ImportFrom, ast.ClassDef))
                     for name in told_names(ast.Module([node], []))}
            for node in ast.walk(tree):
                for name, is_local in self.bound_by(node):
                    self.assertNotIn(name, dir(builtins))
                    self.assertNotIn(name, BARRED)
                    self.assertRegex(name, r"\A(_|_?[A-Za-z][A-Za-z0-9_]*)\Z")
                    self.assertFalse(is_local and name in outer, name)
            for word in re.findall(r"\w+", self.without_comments(text)):
                self.assertNotIn(word, BARRED)

    def bound_by(self, node):
        if isinstance(node, ast.Name) and isinstance(node.ctx, ast.Store):
            yield node.id, node.col_offset > 0
        elif isinstance(node, ast.arg):
            yield node.arg, True
        elif isinstance(node, ast.ClassDef) or (isinstance(node, ast.FunctionDef) and node.name not in SPECIAL):
            yield node.name, False

    def without_comments(self, text):
        text = re.sub(r'"""(.|\n)*?"""', "", text)
        return re.sub(r"#.*", "", text)

    def test_values_and_signs(self):
        for _, tree in self.each():
            for node in ast.walk(tree):
                self.assertNotIsInstance(node, (
                    ast.Div, ast.GeneratorExp, ast.Yield, ast.Global, ast.Nonlocal, ast.Set, ast.Try,
                    ast.AsyncFunctionDef, ast.Await, ast.AnnAssign, ast.NamedExpr))
                if isinstance(node, ast.Constant):
                    self.assertIsInstance(node.value, (int, str, bool, type(None)))
                    is_text = isinstance(node.value, str) and not isinstance(node.parent, ast.Expr)
                    self.assertFalse(is_text and ("%" in node.value or "__" in node.value))
                if isinstance(node, ast.SetComp):
                    self.assertIsInstance(node.parent, ast.Call)
                    self.assertIn(node.parent.func.id, ("len", "sorted"))
                if isinstance(node, ast.BinOp) and isinstance(node.op, ast.Pow):
                    self.assertIsInstance(node.right, ast.Constant)
                    self.assertTrue(0 <= node.right.value <= 64)
                if isinstance(node, ast.Compare):
                    for sign, side in zip(node.ops, node.comparators):
                        if isinstance(sign, (ast.Is, ast.IsNot)):
                            self.assertTrue(isinstance(side, ast.Constant) and side.value in (None, True, False))
                if isinstance(node, ast.Starred):
                    self.assertIsInstance(node.value, ast.Name)

    def test_decorators_and_methods(self):
        for _, tree in self.each():
            for node in ast.walk(tree):
                if isinstance(node, ast.FunctionDef):
                    for one in node.decorator_list:
                        self.assertIn(one.id, ("property", "classmethod", "staticmethod"))
                    self.assertFalse(node.returns or [one for one in ast.walk(node.args) if getattr(
                        one, "annotation", None)])
                    if node.name.startswith("__"):
                        self.assertIn(node.name, SPECIAL)
                        self.assertIsInstance(node.parent, ast.ClassDef)

    def own_attributes(self):
        found = set()
        for path in FILES:
            for node in ast.walk(ast.parse(path.read_text())):
                if isinstance(node, ast.ClassDef):
                    found |= {one.name for one in node.body if isinstance(one, ast.FunctionDef)}
                if isinstance(node, ast.Attribute) and isinstance(node.ctx, ast.Store):
                    found.add(node.attr)
        return found

    def test_builtins_and_methods_of_values(self):
        own = self.own_attributes()
        for _, tree in self.each():
            known = BUILTINS | {"iter"} | set(told_names(tree))
            for node in ast.walk(tree):
                if isinstance(node, ast.FunctionDef) and isinstance(node.parent, (ast.Module, ast.ClassDef)):
                    local = {one.id for one in ast.walk(node) if isinstance(one, ast.Name)
                             and isinstance(one.ctx, ast.Store)}
                    local |= {one.arg for one in ast.walk(node) if isinstance(one, ast.arg)}
                    for one in ast.walk(node):
                        if isinstance(one, ast.Name) and isinstance(one.ctx, ast.Load):
                            self.assertIn(one.id, known | local)
                if isinstance(node, ast.Attribute):
                    self.assertIn(node.attr, own | METHODS)

    def test_iteration(self):
        for _, tree in self.each():
            for node in ast.walk(tree):
                if isinstance(node, ast.Name) and node.id == "iter":
                    above = node.parent.parent.parent
                    self.assertEqual(above.name, "__iter__")
                    self.assertRegex(ast.unparse(above.body), r"\Areturn iter\(self(\.[a-z_]+){1,2}\)\Z")

    def test_what_changes_nothing(self):
        """Operators, properties and the like assign to plain local variables alone."""
        for _, tree in self.each():
            for node in ast.walk(tree):
                if isinstance(node, ast.FunctionDef) and (node.decorator_list or node.name.startswith("__")):
                    for one in ast.walk(node):
                        if node.name not in CHANGING and isinstance(one, (ast.Attribute, ast.Subscript)):
                            self.assertIsInstance(one.ctx, ast.Load)
                        if node.name not in CHANGING:
                            self.assertNotIsInstance(one, ast.AugAssign)

    def test_properties_and_attributes(self):
        """L5, L18, L26: no attribute has the name of a property or of a method that changes a value."""
        properties, stored = set(), set()
        for _, tree in self.each():
            for node in ast.walk(tree):
                if isinstance(node, ast.FunctionDef) and [one for one in node.decorator_list if one.id == "property"]:
                    properties.add(node.name)
                if isinstance(node, ast.Attribute) and isinstance(node.ctx, ast.Store):
                    self.assertIsInstance(node.value, ast.Name)
                    stored.add(node.attr)
        self.assertFalse(stored & (properties | CHANGES | {"items", "keys", "values", "args"}))

    def test_leaving_a_block(self):
        """L6: what `__exit__` may have."""
        for _, tree in self.each():
            for node in ast.walk(tree):
                if isinstance(node, ast.FunctionDef) and node.name == "__exit__":
                    self.assertEqual([one.arg for one in node.args.args], ["self", "kind", "value", "trace"])
                    for row in node.body:
                        self.assertRegex(ast.unparse(row), r"\A[a-z]+(\._[a-z]+)? = self\._[a-z]+\Z")

    def test_not_changed_while_walked(self):
        """L23: what a loop walks is changed in it by no name that may stand for it."""
        for _, tree in self.each():
            for function in ast.walk(tree):
                if isinstance(function, ast.FunctionDef):
                    same = shared_names(function)
                    for node in ast.walk(function):
                        if isinstance(node, ast.For):
                            walked = walked_names(node.iter)
                            changed = {name for part in node.body for name in changed_names(part)}
                        elif isinstance(node, (ast.ListComp, ast.DictComp, ast.SetComp)):
                            walked = {name for part in node.generators for name in walked_names(part.iter)}
                            changed = changed_names(node)
                        else:
                            continue
                        for name in walked:
                            self.assertFalse(changed & same.get(name, {name}), (function.name, name, node.lineno))

    def test_what_operators_call(self):
        """L5, L28: what operators and properties run calls methods of what it made itself alone, and changes no other.
        """
        functions = {}
        for _, tree in self.each():
            for node in tree.body:
                if isinstance(node, ast.FunctionDef):
                    functions.setdefault(node.name, []).append(node)
        for function in self.run_by_operators(functions):
            made = made_names(function)
            for node in ast.walk(function):
                self.assertNotIsInstance(node, ast.Delete)
                if isinstance(node, ast.Call) and isinstance(node.func, ast.Attribute):
                    self.assertTrue(is_made(node.func.value, made), (function.name, node.lineno))
                if isinstance(node, (ast.Subscript, ast.Attribute)) and not isinstance(node.ctx, ast.Load):
                    self.assertTrue(is_made(node.value, made), (function.name, node.lineno))
                if isinstance(node, ast.AugAssign) and isinstance(node.target, ast.Name):
                    self.assertIsInstance(node.value, ast.Constant, (function.name, node.lineno))

    def test_what_lengths_and_texts_call(self):
        """L28: what `__len__`, `__eq__`, `__str__` and `__repr__` call reads no method or property of any object.

        What bears the name of what is called is asked, too, if it is a method.
        """
        functions, members, found = {}, set(), []
        for _, tree in self.each():
            for node in ast.walk(tree):
                if isinstance(node, ast.FunctionDef):
                    functions.setdefault(node.name, []).append(node)
                    if isinstance(node.parent, ast.ClassDef):
                        members.add(node.name)
        for name in ("__len__", "__eq__", "__str__", "__repr__"):
            for method in functions.get(name, ()):
                found.extend(self.called_by(method, functions))
        self.assertTrue(found)
        for function in found:
            for node in ast.walk(function):
                if isinstance(node, ast.Attribute):
                    self.assertFalse(node.attr in members, (function.name, node.attr, node.lineno))
            found.extend(one for one in self.called_by(function, functions) if one not in found)

    def called_by(self, function, functions):
        calls = [node.func for node in ast.walk(function) if isinstance(node, ast.Call)]
        names = {getattr(call, "id", getattr(call, "attr", "")) for call in calls}
        return [one for name in sorted(names) for one in functions.get(name, ())]

    def test_what_they_assign_and_return(self):
        """L28: what `__eq__`, `__str__` and `__len__` assign, and what the last two return."""
        for _, tree in self.each():
            for node in ast.walk(tree):
                if isinstance(node, ast.FunctionDef) and node.name in ("__eq__", "__str__", "__len__"):
                    for one in ast.walk(node):
                        if isinstance(one, ast.Assign):
                            self.assertTrue(makes_list(one.value))
                        if isinstance(one, ast.Return) and node.name == "__len__":
                            self.assertEqual(one.value.func.id, "len")
                        if isinstance(one, ast.Return) and node.name == "__str__":
                            self.assertRegex(ast.unparse(one.value), r"""\A(f?['"]|str\()""")

    def run_by_operators(self, functions):
        """All operators and properties, and the functions that they call, by whatever way."""
        found = []
        for _, tree in self.each():
            for node in ast.walk(tree):
                if isinstance(node, ast.FunctionDef) and isinstance(node.parent, ast.ClassDef):
                    is_operator = node.name.startswith("__") and node.name not in CHANGING
                    if is_operator or [one for one in node.decorator_list if one.id == "property"]:
                        found.append(node)
        for function in found:
            for node in ast.walk(function):
                if isinstance(node, ast.Call) and isinstance(node.func, ast.Name):
                    found.extend(one for one in functions.get(node.func.id, ()) if one not in found)
        return found

    def test_iterated_at_once(self):
        for _, tree in self.each():
            for node in ast.walk(tree):
                if not isinstance(node, ast.Call):
                    continue
                kind = getattr(node.func, "id", getattr(node.func, "attr", ""))
                if kind in AT_ONCE or kind in ("items", "keys", "values"):
                    above = node.parent
                    is_looped = isinstance(above, (ast.For, ast.comprehension)) and above.iter is node
                    is_taken = isinstance(above, ast.Call) and getattr(above.func, "id", "") in TAKERS
                    self.assertTrue(is_looped or is_taken, (kind, node.lineno))
                    # What stands alone in min and max does so; zip and enumerate take it as the first argument.
                    self.assertFalse(is_taken and kind == "reversed" and above.func.id == "sorted")


if __name__ == "__main__":
    unittest.main()
