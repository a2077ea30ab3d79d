"""The package's own files keep to their small part of the language, so far as their form shows it."""

import ast
import pathlib
import re
import unittest

PACKAGE = pathlib.Path(__file__).resolve().parent.parent / "detachedrows"
FILES = sorted(path for path in PACKAGE.rglob("*") if path.is_file() and "__pycache__" not in path.parts)

STATEMENTS = (ast.Assign, ast.AugAssign, ast.If, ast.While, ast.For, ast.Return, ast.Break, ast.Continue, ast.Pass,
              ast.Raise, ast.Try, ast.Expr, ast.FunctionDef, ast.ClassDef, ast.ImportFrom)
EXPRESSIONS = (ast.Constant, ast.Name, ast.Attribute, ast.Subscript, ast.Slice, ast.Call, ast.BinOp, ast.UnaryOp,
               ast.BoolOp, ast.Compare, ast.IfExp, ast.List, ast.Tuple, ast.Dict, ast.ListComp, ast.JoinedStr,
               ast.FormattedValue, ast.Lambda)
BUILT_IN = set("""len range enumerate zip min max sum abs sorted reversed int str bool list tuple dict set frozenset
    isinstance ord repr any all divmod Exception ValueError TypeError KeyError IndexError LookupError
    ZeroDivisionError ArithmeticError OverflowError RuntimeError NotImplementedError AttributeError
    StopIteration""".split())
METHODS = set("""append clear copy count endswith extend find get index insert isalnum isalpha isdigit islower
    isspace isupper items join keys ljust lower lstrip partition pop remove replace reverse rfind rjust rpartition
    rsplit rstrip setdefault split splitlines startswith strip update upper values zfill bit_length""".split())
CHANGING = {"append", "clear", "extend", "insert", "pop", "remove", "reverse", "setdefault", "update"}
WALKED = {"zip", "enumerate", "reversed", "range", "items", "keys", "values"}
WALKERS = {"list", "tuple", "dict", "sorted", "sum", "any", "all", "enumerate", "zip", "min", "max", "join"}
WORDS = set("""type typing typing_extensions enum Enum IntEnum StrEnum Flag IntFlag Generic Protocol ABC ABCMeta
    namedtuple NamedTuple TypedDict TYPE_CHECKING abstractmethod""".split())
NAMES = set("""register mro elements open input version_info with_traceback add_note attrgetter breakpoint builtins
    compile copyright credits delattr dir eval exec exit gc getattr globals hasattr help id importlib license locals
    methodcaller os quit setattr super type vars sys __name__ hash next map iter object format filter bytes slice
    callable chr print""".split())
FILE_NAMES = {"test", "tests", "testing", "site", "conftest", "sitecustomize", "usercustomize"} | WORDS | NAMES
VALUE_NAMES = {"items", "keys", "values", "pop", "update", "append", "clear", "extend", "insert", "remove", "reverse",
               "setdefault", "sort", "args", "encode", "format"}
OWN_DUNDER = {"__init__", "__eq__", "__repr__", "__str__", "__len__"}


def parsed():
    return [(path, ast.parse(path.read_text(encoding="ascii"))) for path in FILES]


def functions(tree):
    return [node for node in ast.walk(tree) if isinstance(node, ast.FunctionDef)]


def bound_names(tree):
    """Every name that a file binds, at its top or within."""
    found = [node.id for node in ast.walk(tree) if isinstance(node, ast.Name) and isinstance(node.ctx, ast.Store)]
    found += [node.name for node in ast.walk(tree) if isinstance(node, (ast.FunctionDef, ast.ClassDef))]
    found += [node.arg for node in ast.walk(tree) if isinstance(node, ast.arg)]
    found += [node.name for node in ast.walk(tree) if isinstance(node, ast.ExceptHandler) and node.name]
    return found


def is_docstring(node):
    return isinstance(node, ast.Expr) and isinstance(node.value, ast.Constant) and isinstance(node.value.value, str)


def called_name(call):
    return call.func.id if isinstance(call.func, ast.Name) else getattr(call.func, "attr", None)


class Language(unittest.TestCase):
    def each_node(self, *kinds):
        for path, tree in parsed():
            for node in ast.walk(tree):
                if not kinds or isinstance(node, kinds):
                    yield f"{path.name}:{getattr(node, 'lineno', 0)}", node

    def test_files_and_signs(self):
        self.assertTrue(FILES)
        for path in FILES:
            self.assertEqual(path.suffix, ".py")
            self.assertRegex(path.stem, r"\A[a-z][a-z0-9_]*\Z|\A__init__\Z")
            self.assertNotIn(path.stem, FILE_NAMES)
            self.assertFalse(path.stem.startswith("test_"))
            data = path.read_bytes()
            self.assertTrue(all(byte == 10 or 32 <= byte <= 126 for byte in data), path.name)
            lines = data.decode().split("\n")
            self.assertLessEqual(len(lines) - 1, 399)
            self.assertLessEqual(max(len(line) for line in lines), 120)
            for line in lines:
                self.assertFalse(set(re.findall(r"\w+", line)) & WORDS, line)
                self.assertIsNone(re.search("dataclass|overload|contextmanager", line), line)

    def test_statements_and_expressions(self):
        for where, node in self.each_node(ast.stmt):
            self.assertIsInstance(node, STATEMENTS, where)
        for where, node in self.each_node(ast.expr):
            self.assertIsInstance(node, EXPRESSIONS, where)
        for where, node in self.each_node(ast.Assign):
            self.assertEqual(len(node.targets), 1, where)
            self.assertNotIsInstance(node.targets[0], (ast.Tuple, ast.List), where)
        for where, node in self.each_node(ast.While, ast.For):
            self.assertFalse(node.orelse, where)
        for where, node in self.each_node(ast.Try):
            self.assertFalse(node.finalbody, where)
            self.assertTrue(all(handler.type is not None for handler in node.handlers), where)
        for where, node in self.each_node(ast.Expr):
            self.assertTrue(isinstance(node.value, ast.Call) or is_docstring(node), where)
        for where, node in self.each_node(ast.BinOp):
            self.assertNotIsInstance(node.op, (ast.Div, ast.MatMult, ast.Pow), where)
        for where, node in self.each_node(ast.ListComp):
            self.assertEqual(len(node.generators), 1, where)
            self.assertLessEqual(len(node.generators[0].ifs), 1, where)
        for where, node in self.each_node(ast.Compare):
            for operator, other in zip(node.ops, node.comparators):
                if isinstance(operator, (ast.Is, ast.IsNot)):
                    self.assertTrue(isinstance(other, ast.Constant) and other.value in (None, True, False), where)

    def test_values(self):
        for where, node in self.each_node(ast.Constant):
            self.assertTrue(node.value is None or type(node.value) in (int, str, bool), where)
            if isinstance(node.value, str):
                self.assertNotIn("%", node.value, where)
        for where, node in self.each_node(ast.FormattedValue):
            self.assertIsInstance(node.value, ast.Name, where)
            self.assertIsNone(node.format_spec, where)

    def test_the_top_of_a_file(self):
        for path, tree in parsed():
            self.assertTrue(is_docstring(tree.body[0]), path.name)
            bound = []
            for node in tree.body[1:]:
                self.assertIsInstance(node, (ast.ImportFrom, ast.FunctionDef, ast.ClassDef, ast.Assign), path.name)
                if isinstance(node, ast.Assign):
                    self.assertIsInstance(node.value, (ast.Constant, ast.Tuple), f"{path.name}:{node.lineno}")
                    bound.append(node.targets[0].id)
                elif isinstance(node, ast.ImportFrom):
                    bound.extend(alias.asname or alias.name for alias in node.names)
                else:
                    bound.append(node.name)
            self.assertEqual(len(bound), len(set(bound)), path.name)

    def test_imports(self):
        drawn = {}
        for path, tree in parsed():
            drawn[path.stem] = set()
            for node in ast.walk(tree):
                if isinstance(node, ast.ImportFrom):
                    self.assertIn(node, tree.body)
                    self.assertEqual(node.level, 0)
                    package, stem = node.module.split(".")
                    self.assertEqual(package, "detachedrows")
                    other = ast.parse((PACKAGE / f"{stem}.py").read_text())
                    tops = {top.name for top in other.body if isinstance(top, (ast.FunctionDef, ast.ClassDef))}
                    tops |= {top.targets[0].id for top in other.body if isinstance(top, ast.Assign)}
                    for alias in node.names:
                        self.assertIsNone(alias.asname)
                        self.assertIn(alias.name, tops, path.name)
                    drawn[path.stem].add(stem)
        while drawn:
            free = [stem for stem, others in drawn.items() if not others & set(drawn)]
            self.assertTrue(free, f"files draw from one another: {sorted(drawn)}")
            for stem in free:
                drawn.pop(stem)

    def test_every_import_and_every_name_of_the_top_is_used(self):
        texts = {path.stem: path.read_text() for path in FILES}
        for path, tree in parsed():
            for node in tree.body:
                if isinstance(node, ast.ImportFrom):
                    for alias in node.names:
                        self.assertGreater(len(re.findall(rf"\b{alias.name}\b", texts[path.stem])), 1, alias.name)
                elif isinstance(node, (ast.FunctionDef, ast.Assign)):
                    name = node.name if isinstance(node, ast.FunctionDef) else node.targets[0].id
                    uses = len(re.findall(rf"\b{name}\b", " ".join(texts.values())))
                    self.assertTrue(uses > 1 or name == "answers", name)

    def test_functions(self):
        for where, node in self.each_node(ast.FunctionDef):
            self.assertLessEqual(node.end_lineno - node.lineno + 1, 40, where)
            self.assertFalse(node.decorator_list or node.args.vararg or node.args.kwarg or node.args.kwonlyargs, where)
            self.assertFalse(node.args.posonlyargs or node.returns, where)
            self.assertTrue(is_docstring(node.body[0]) or node.name in OWN_DUNDER, where)
            for default in node.args.defaults:
                self.assertIsInstance(default, ast.Constant, where)
        for where, node in self.each_node(ast.arg):
            self.assertIsNone(node.annotation, where)

    def test_classes(self):
        methods, values = set(), set()
        for path, tree in parsed():
            tops = [node for node in tree.body if isinstance(node, ast.ClassDef)]
            self.assertEqual(tops, [node for node in ast.walk(tree) if isinstance(node, ast.ClassDef)])
            for node in tops:
                self.assertLessEqual(len(node.bases), 1)
                self.assertFalse(node.decorator_list or node.keywords)
                self.assertTrue(is_docstring(node.body[0]), node.name)
                names = [part.name for part in node.body[1:]]
                self.assertEqual(len(names), len(set(names)))
                methods.update(names)
                values.update(part.attr for part in ast.walk(node)
                              if isinstance(part, ast.Attribute) and isinstance(part.ctx, ast.Store))
        self.assertFalse(methods & values)
        self.assertFalse(values & (VALUE_NAMES | NAMES))
        self.assertFalse(methods & NAMES)

    def test_names(self):
        for path, tree in parsed():
            bound = bound_names(tree)
            tops = {alias.name for node in tree.body if isinstance(node, ast.ImportFrom) for alias in node.names}
            tops |= {node.name for node in tree.body if isinstance(node, ast.ClassDef)}
            for name in bound:
                self.assertTrue(re.fullmatch(r"[A-Za-z]\w*", name) or name in OWN_DUNDER, name)
                self.assertNotIn(name, BUILT_IN | NAMES, path.name)
            inner = bound_names(ast.Module(body=functions(tree), type_ignores=[]))
            self.assertFalse((set(inner) - {node.name for node in functions(tree)}) & tops, path.name)
            known = set(bound) | tops | BUILT_IN
            for node in ast.walk(tree):
                if isinstance(node, ast.Name):
                    self.assertIn(node.id, known, f"{path.name}:{node.lineno}")

    def test_methods_that_are_called(self):
        own = set()
        for path, tree in parsed():
            for node in ast.walk(tree):
                if isinstance(node, ast.ClassDef):
                    own |= {part.name for part in node.body if isinstance(part, ast.FunctionDef)}
        for where, node in self.each_node(ast.Call):
            if isinstance(node.func, ast.Attribute):
                self.assertIn(node.func.attr, own | METHODS, where)
            for keyword in node.keywords:
                self.assertIn((called_name(node), keyword.arg),
                              {("sorted", "key"), ("sorted", "reverse"), ("min", "key"), ("max", "key")}, where)
            self.assertFalse(any(isinstance(given, ast.Starred) for given in node.args), where)

    def test_lists_and_tuples_of_the_top_are_only_read(self):
        for path, tree in parsed():
            kept = {node.targets[0].id for node in tree.body
                    if isinstance(node, ast.Assign) and isinstance(node.value, (ast.Tuple, ast.List, ast.Dict))}
            for node in ast.walk(tree):
                if isinstance(node, (ast.Call, ast.Return)):
                    given = node.args if isinstance(node, ast.Call) else [node.value]
                    names = {part.id for part in given if isinstance(part, ast.Name)}
                    self.assertFalse(names & kept and called_name_or_none(node) not in ("len", "list", "tuple"))
                if isinstance(node, ast.Subscript) and isinstance(node.ctx, ast.Store):
                    self.assertFalse(isinstance(node.value, ast.Name) and node.value.id in kept)

    def test_walks(self):
        for path, tree in parsed():
            parents = {child: node for node in ast.walk(tree) for child in ast.iter_child_nodes(node)}
            for node in ast.walk(tree):
                where = f"{path.name}:{getattr(node, 'lineno', 0)}"
                if isinstance(node, ast.Call) and called_name(node) in WALKED:
                    parent = parents[node]
                    behind_in = isinstance(parent, (ast.For, ast.comprehension)) and parent.iter is node
                    first = isinstance(parent, ast.Call) and called_name(parent) in WALKERS and parent.args[0] is node
                    self.assertTrue(behind_in or first, where)
                    self.assertFalse(first and called_name(node) == "range" and called_name(parent) == "reversed")
                if isinstance(node, ast.For):
                    walked = {ast.dump(part) for part in ast.walk(node.iter) if isinstance(part, (ast.Name, ast.Attribute))}
                    for inner in [part for row in node.body for part in ast.walk(row)]:
                        if isinstance(inner, ast.Call) and called_name(inner) in CHANGING:
                            self.assertNotIn(ast.dump(inner.func.value), walked, where)

    def test_the_interface_stands_in_the_file_that_it_names(self):
        places = [path.stem for path, tree in parsed() for node in ast.walk(tree)
                  if isinstance(node, (ast.FunctionDef, ast.ClassDef)) and node.name == "answers"]
        self.assertEqual(places, ["proofs"])
        tree = ast.parse((PACKAGE / "proofs.py").read_text())
        answers = [node for node in tree.body if isinstance(node, ast.FunctionDef) and node.name == "answers"][0]
        self.assertEqual([given.arg for given in answers.args.args], ["calls"])
        self.assertFalse(answers.args.defaults)

    def test_what_may_be_nested_is_gone_through_by_loops(self):
        for path, tree in parsed():
            for node in functions(tree):
                inner = [part for part in ast.walk(node) if isinstance(part, ast.Call)]
                self.assertNotIn(node.name, [called_name(call) for call in inner], path.name)


def called_name_or_none(node):
    return called_name(node) if isinstance(node, ast.Call) else None


if __name__ == "__main__":
    unittest.main()
