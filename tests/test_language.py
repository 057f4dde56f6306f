"""The rules of LANGUAGE.md that a program can look at, and the shape of the interface."""

import ast
import builtins
import importlib
import inspect
import pathlib
import re
import unittest

ROOT = pathlib.Path(__file__).resolve().parent.parent
PACKAGE = ROOT / "allcells"
LIBRARY = {"heapq", "math", "itertools"}
BUILTINS = set(
    "len range enumerate zip min max sum abs sorted reversed int str bool list tuple dict set isinstance ord repr "
    "any all divmod Exception ValueError TypeError KeyError IndexError LookupError ZeroDivisionError "
    "RuntimeError NotImplementedError NotImplemented property True False None".split()
)
METHODS = set(
    "append clear copy count endswith extend find get index insert isalnum isalpha isdigit islower isspace isupper "
    "items join keys ljust lower lstrip partition pop remove replace reverse rfind rjust rpartition rsplit rstrip "
    "setdefault split splitlines startswith strip update upper values zfill bit_length".split()
)
DUNDERS = {"__init__", "__eq__", "__repr__", "__str__", "__len__", "__call__", "__add__"}
BUILTIN_NAMES = set(dir(builtins)) - {"_"}
STATEMENTS = (
    ast.Assign, ast.AugAssign, ast.If, ast.While, ast.For, ast.Return, ast.Break, ast.Continue, ast.Pass, ast.Raise,
    ast.Assert, ast.Delete, ast.Expr, ast.FunctionDef, ast.ClassDef, ast.ImportFrom, ast.Try,
)
BARRED_NAMES = {
    "register", "mro", "elements", "open", "input", "law", "version_info", "with_traceback", "add_note", "attrgetter",
    "breakpoint", "builtins", "compile", "delattr", "dir", "eval", "exec", "exit", "gc", "globals", "help", "id",
    "importlib", "license", "locals", "methodcaller", "os", "quit", "super", "type", "vars", "sys", "map",
}
BARRED_WORDS = (
    "type typing enum Enum IntEnum StrEnum Flag Generic Protocol ABC ABCMeta namedtuple NamedTuple TypedDict "
    "abstractmethod _wall _WallAttr"
).split()
AT_ONCE = {"list", "tuple", "dict", "sorted", "sum", "any", "all", "enumerate", "zip", "min", "max"}
INTERFACE = {
    "errors": "CellError InvalidName InvalidTerm InvalidSaying InvalidStep InvalidRow Unknown Contradiction Needless "
              "TooLong NothingToUndo Unreadable",
    "states": "State(places,numbers,arrays)",
    "sayings": "checked(saying) terms_of(sayings) names_of(sayings) is_true(saying,state) all_true(sayings,state) "
               "first_false(sayings,state) where_false(saying,state) settled(sayings,state) opposites(saying,fresh)",
    "decide": "possible(sayings) model(sayings) clash(sayings) judge_clash(sayings,told) least_clashes(sayings)",
    "follows": "follows(sayings,saying) counter(sayings,saying) why_follows(sayings,saying) judge_why(sayings,saying,told) "
               "first_different(one,other) needless(sayings) thinned(sayings) alike(one,other) first_new(one,other)",
    "bounds": "value_bounds(sayings,u,v) place_bounds(sayings,p,q) state_with(sayings,u,v,number)",
    "programs": "Program(steps) run(program,state,most)",
    "seen": "fitting(sayings,states) strongest(sayings,states) strictest_state(sayings,states)",
    "live": "Sheet() LeanSheet()",
    "texts": "show_term(term) show_saying(saying) show_state(state)",
    "readings": "read_term(text) read_saying(text) read_state(text)",
    "gaps": "holds(ahead,program,behind) duties(ahead,program,behind) largest_kept(ahead,program,offered) "
            "ends(program,p,q) first_gap(ahead,program,behind) judge_gap(ahead,program,behind,told)",
}
CLASSES = {
    "states.State": "places numbers arrays place_of(self,term) value_of(self,term) with_cell(self,array,place,value) "
                    "__len__(self) __eq__(self,other)",
    "live.Sheet": "__call__(self,saying) sayings follows(self,saying) model(self) add_all(self,sayings) undo(self) "
                  "__len__(self) __eq__(self,other)",
    "live.LeanSheet": "__call__(self,saying) add_all(self,sayings) __eq__(self,other)",
    "programs.Program": "steps then(self,other) __add__(self,other) __len__(self) __eq__(self,other)",
}


def files():
    return sorted(path for path in PACKAGE.rglob("*") if path.is_file() and "__pycache__" not in path.parts)


class Language(unittest.TestCase):
    def setUp(self):
        self.trees = {path: ast.parse(path.read_text(encoding="utf-8")) for path in files()}
        for path, tree in self.trees.items():
            for node in ast.walk(tree):
                for child in ast.iter_child_nodes(node):
                    child.parent = node

    def nodes(self, *kinds):
        for path, tree in self.trees.items():
            for node in ast.walk(tree):
                if isinstance(node, kinds):
                    yield f"{path.name}:{getattr(node, 'lineno', 0)}", node

    def test_files(self):
        for path in files():
            self.assertRegex(path.name, r"^[a-z_][a-z0-9_]*\.py$")
            self.assertNotIn(path.stem, BUILTIN_NAMES)
        self.assertIn(PACKAGE / "__init__.py", files())

    def test_sizes_and_characters(self):
        for path in files():
            text = path.read_text(encoding="utf-8")
            lines = text.split("\n")
            self.assertLessEqual(len(lines), 400, path)
            for at, line in enumerate(lines, 1):
                self.assertLessEqual(len(line), 120, f"{path}:{at}")
                self.assertTrue(all(" " <= char <= "~" for char in line), f"{path}:{at}")
            for word in re.findall(r"\w+", text):
                self.assertNotIn(word, BARRED_WORDS, path)
        for where, node in self.nodes(ast.FunctionDef):
            self.assertLessEqual(node.end_lineno - node.lineno + 1, 40, where)

    def test_imports(self):
        order = {}
        for path, tree in self.trees.items():
            body = tree.body[1:] if ast.get_docstring(tree) else tree.body
            heads = [at for at, node in enumerate(body) if isinstance(node, ast.ImportFrom)]
            self.assertEqual(heads, list(range(len(heads))), path)
            order[path.stem] = []
            for node in body[: len(heads)]:
                self.assertTrue(node.level == 0 and all(each.asname is None and each.name != "*" for each in node.names))
                top, *rest = node.module.split(".")
                if top == "allcells":
                    order[path.stem] += rest
                    defined = {each.name for each in self.trees[PACKAGE / f"{rest[0]}.py"].body
                               if isinstance(each, (ast.FunctionDef, ast.ClassDef))}
                    defined |= {each.targets[0].id for each in self.trees[PACKAGE / f"{rest[0]}.py"].body
                                if isinstance(each, ast.Assign)}
                    self.assertLessEqual({each.name for each in node.names}, defined, path)
                else:
                    self.assertIn(top, LIBRARY, path)
        done = []
        while order:
            free = [name for name in order if all(other in done for other in order[name])]
            self.assertTrue(free, order)
            for name in free:
                done.append(name)
                del order[name]
        self.assertEqual([where for where, _ in self.nodes(ast.Import)], [])

    def test_module_level(self):
        for path, tree in self.trees.items():
            names = []
            for at, node in enumerate(tree.body):
                if at == 0 and isinstance(node, ast.Expr):
                    self.assertIsInstance(node.value.value, str)
                elif isinstance(node, ast.Assign):
                    self.assertTrue(len(node.targets) == 1 and isinstance(node.targets[0], ast.Name))
                    ast.literal_eval(node.value)
                    names.append(node.targets[0].id)
                elif isinstance(node, ast.ImportFrom):
                    names += [each.name for each in node.names]
                else:
                    self.assertIsInstance(node, (ast.FunctionDef, ast.ClassDef))
                    names.append(node.name)
            self.assertEqual(len(names), len(set(names)), path)

    def test_statements(self):
        for where, node in self.nodes(ast.stmt):
            self.assertIsInstance(node, STATEMENTS, where)
        for where, node in self.nodes(ast.FunctionDef):
            self.assertTrue(all(isinstance(each, ast.Name) and each.id == "property" for each in node.decorator_list), where)
            self.assertFalse(node.args.defaults and not all(isinstance(d, ast.Constant) for d in node.args.defaults), where)
            if node.name.startswith("__"):
                self.assertIn(node.name, DUNDERS, where)
            self.assertIsNotNone(ast.get_docstring(node) or node.name.startswith("__") or None, where)
        for where, node in self.nodes(ast.Expr):
            self.assertIsInstance(node.value, (ast.Call, ast.Constant), where)
        for where, node in self.nodes(ast.Raise):
            self.assertTrue(isinstance(node.exc, ast.Call) and isinstance(node.exc.func, ast.Name), where)
            self.assertTrue(node.cause is None or ast.unparse(node.cause) == "None", where)
        for where, node in self.nodes(ast.Try):
            self.assertEqual(node.finalbody, [], where)
        for where, node in self.nodes(ast.ExceptHandler):
            self.assertIn(ast.unparse(node.type), INTERFACE["errors"].split(), where)

    def test_expressions(self):
        barred = (ast.GeneratorExp, ast.Div, ast.Pow, ast.Mod, ast.Lambda, ast.NamedExpr, ast.JoinedStr, ast.Yield,
                  ast.YieldFrom, ast.Await, ast.Set)
        self.assertEqual([where for where, _ in self.nodes(*barred)], [])
        for where, node in self.nodes(ast.Constant):
            self.assertNotIsInstance(node.value, (float, complex, bytes), where)
            if isinstance(node.value, str):
                self.assertNotIn(chr(37), node.value, where)
                self.assertFalse(node.value.startswith("__") or node.value.endswith(("._", ".__")), where)
        for where, node in self.nodes(ast.Compare):
            for sign, right in zip(node.ops, node.comparators):
                if isinstance(sign, (ast.Is, ast.IsNot)):
                    self.assertTrue(isinstance(right, ast.Constant) and right.value in (None, True, False), where)
        for where, node in self.nodes(ast.SetComp):
            self.assertIn(node.parent.func.id, ("sorted", "len"), where)
            self.assertEqual(node.parent.keywords, [], where)

    def test_calls(self):
        own = {node.name for _, node in self.nodes(ast.FunctionDef)}
        for where, node in self.nodes(ast.Call):
            if isinstance(node.func, ast.Attribute):
                self.assertIn(node.func.attr, METHODS | own, where)
            name = node.func.id if isinstance(node.func, ast.Name) else ""
            parent = node.parent
            user = parent.func.id if isinstance(parent, ast.Call) and isinstance(parent.func, ast.Name) else ""
            looped = isinstance(parent, (ast.For, ast.comprehension)) and parent.iter is node
            if name == "set":
                self.assertIn(user, ("sorted", "len"), where)
            if name in ("zip", "range", "enumerate", "reversed"):
                apart = name == "range" and user == "reversed"
                self.assertTrue(looped or apart or user in AT_ONCE | {"combinations"}, where)
            if isinstance(node.func, ast.Attribute) and node.func.attr in ("items", "keys", "values"):
                self.assertTrue(looped or user in AT_ONCE, where)
            if name in BUILTIN_NAMES:
                self.assertEqual(node.keywords, [], where)

    def test_names(self):
        for path, tree in self.trees.items():
            fixed = {each.name for node in tree.body if isinstance(node, ast.ImportFrom) for each in node.names}
            fixed |= {node.name for node in tree.body if isinstance(node, ast.ClassDef)}
            for node in ast.walk(tree):
                if isinstance(node, ast.Name) and isinstance(node.ctx, ast.Load) and node.id in BUILTIN_NAMES:
                    self.assertIn(node.id, BUILTINS, f"{path}:{node.lineno}")
                bound = []
                if isinstance(node, ast.Name) and isinstance(node.ctx, ast.Store):
                    bound = [node.id]
                elif isinstance(node, ast.arg):
                    bound = [node.arg]
                for name in bound:
                    self.assertNotIn(name, fixed, f"{path}:{node.lineno}")
                    self.assertFalse(name in BUILTIN_NAMES, f"{path}:{node.lineno}")
                if isinstance(node, (ast.FunctionDef, ast.ClassDef)) and not node.name.startswith("__"):
                    self.assertFalse(node.name in BUILTIN_NAMES, f"{path}:{node.lineno}")
                    bound = [node.name]
                for name in bound:
                    self.assertRegex(name, r"^(_|_?[A-Za-z][A-Za-z0-9_]*)$")
                    self.assertNotIn(name, BARRED_NAMES, f"{path}:{node.lineno}")
                if isinstance(node, ast.Attribute):
                    self.assertRegex(node.attr, r"^(_?[A-Za-z][A-Za-z0-9_]*)$")

    def test_interface(self):
        for name, wanted in INTERFACE.items():
            module = importlib.import_module(f"allcells.{name}")
            for told in wanted.split():
                word, _, given = told.partition("(")
                thing = getattr(module, word)
                self.assertEqual(thing.__module__, f"allcells.{name}")
                if given:
                    self.assertEqual(",".join(inspect.signature(thing).parameters), given[:-1])

    def test_methods_stand_in_their_classes(self):
        for name, wanted in CLASSES.items():
            module, _, word = name.partition(".")
            body = vars(getattr(importlib.import_module(f"allcells.{module}"), word))
            for told in wanted.split():
                method, _, given = told.partition("(")
                if given:
                    self.assertEqual(list(inspect.signature(body[method]).parameters), given[:-1].split(","))
                else:
                    self.assertIsInstance(body[method], property)

    def test_properties(self):
        """No attribute is stored under the name of a property, and no method has it."""
        marked = [node for _, node in self.nodes(ast.FunctionDef) if node.decorator_list]
        names = {node.name for node in marked}
        plain = {node.name for _, node in self.nodes(ast.FunctionDef)} - names
        self.assertEqual(names & plain, set())
        stored = {node.attr for _, node in self.nodes(ast.Attribute) if isinstance(node.ctx, ast.Store)}
        self.assertEqual(names & stored, set())


if __name__ == "__main__":
    unittest.main()
