"""The package keeps to its subset of Python: the rules that can be seen in the syntax."""

import ast
import builtins
import os
import re
import unittest
import warnings

import allworlds

FOLDER = os.path.dirname(allworlds.__file__)
BUILTINS = set("""len range enumerate zip min max sum abs sorted reversed int str bool list tuple dict set isinstance ord
    repr any all divmod Exception ValueError TypeError KeyError IndexError LookupError ZeroDivisionError ArithmeticError
    OverflowError RuntimeError NotImplementedError property staticmethod classmethod""".split())
METHODS = set("""append clear copy count endswith extend find get index insert isalnum isalpha isdigit islower isspace
    isupper items join keys ljust lower lstrip partition pop remove replace reverse rfind rjust rpartition rsplit rstrip
    setdefault split splitlines startswith strip update upper values zfill bit_length add discard""".split())
LIBRARY = {"math": {"gcd", "lcm", "isqrt", "comb", "perm", "factorial"}, "heapq": {"heappop", "heappush"}}
NOWHERE = re.compile(r"\b(register|mro|elements|open|input|law|version_info|with_traceback|add_note|type|typing|enum|Enum|"
                     r"Generic|Protocol|ABC|namedtuple|NamedTuple|TypedDict|_wall|copyright|credits|eval|exec|exit|gc|"
                     r"globals|help|id|locals|os|quit|super|vars|global|async|await|lambda_)\b")
KINDS = (ast.FunctionDef, ast.Lambda)
COMPREHENSIONS = (ast.ListComp, ast.SetComp, ast.DictComp, ast.GeneratorExp)
AT_ONCE = {"list", "tuple", "dict", "sorted", "sum", "any", "all", "enumerate", "zip", "min", "max"}
VIEWS = {"zip", "enumerate", "reversed", "range"}
BARRED = (ast.Global, ast.AsyncFunctionDef, ast.Await, ast.AsyncFor, ast.AsyncWith, ast.GeneratorExp, ast.Set, ast.SetComp,
          ast.Yield, ast.YieldFrom, ast.With, ast.Match, ast.NamedExpr, ast.AnnAssign, ast.Nonlocal, ast.Div,
          ast.MatMult, ast.Import)


def sources():
    """The text and the tree of each file."""
    found = {}
    for name in sorted(os.listdir(FOLDER)):
        if name != "__pycache__":
            with open(os.path.join(FOLDER, name), encoding="ascii") as file:
                text = file.read()
            found[name] = (text, ast.parse(text))
    return found


def parents_by(tree):
    """The node around each node."""
    return {child: node for node in ast.walk(tree) for child in ast.iter_child_nodes(node)}


def call_name(node):
    """The bare name that a call calls, or an empty string."""
    return node.func.id if isinstance(node, ast.Call) and isinstance(node.func, ast.Name) else ""


def is_view(node):
    """Whether a call gives what is iterated at once."""
    if call_name(node) in VIEWS:
        return True
    return (isinstance(node, ast.Call) and isinstance(node.func, ast.Attribute)
            and node.func.attr in ("items", "keys", "values"))


class TestLanguage(unittest.TestCase):
    def each_node(self):
        for name, (_, tree) in sources().items():
            around = parents_by(tree)
            for node in ast.walk(tree):
                yield f"{name}:{getattr(node, 'lineno', 0)}", node, around

    def test_files(self):
        self.assertLessEqual(len(sources()), 100)
        for name, (text, tree) in sources().items():
            self.assertRegex(name, r"\A[a-z0-9_]+\.py\Z")
            lines = text.split("\n")
            self.assertLessEqual(len(lines), 400, name)
            self.assertTrue(text.endswith("\n"), name)
            for at, line in enumerate(lines):
                self.assertRegex(line, r"\A[ -~]{0,120}\Z", f"{name}:{at + 1}")
            with warnings.catch_warnings():
                warnings.simplefilter("error")
                compile(text, name, "exec")
            self.assertIsNotNone(ast.get_docstring(tree), name)

    def test_module_level(self):
        for name, (_, tree) in sources().items():
            bound = []
            for node in tree.body:
                where = f"{name}:{node.lineno}"
                if isinstance(node, ast.ImportFrom):
                    bound += [item.name for item in node.names]
                elif isinstance(node, ast.Assign):
                    self.assertEqual(len(node.targets), 1, where)
                    self.assertIsInstance(node.targets[0], ast.Name, where)
                    bound.append(node.targets[0].id)
                    self.assertFalse([n for n in ast.walk(node.value) if isinstance(n, (ast.Call, ast.Lambda))], where)
                elif isinstance(node, (ast.FunctionDef, ast.ClassDef)):
                    bound.append(node.name)
                    self.assertIsNotNone(ast.get_docstring(node), where)
                else:
                    self.assertIsInstance(node, ast.Expr, where)
                    self.assertIsInstance(node.value, ast.Constant, where)
            self.assertEqual(len(bound), len(set(bound)), name)

    def test_imports(self):
        found = sources()
        goals = {}
        for name, (text, tree) in found.items():
            goals[name] = set()
            for node in ast.walk(tree):
                if not isinstance(node, ast.ImportFrom):
                    continue
                self.assertIn(node, tree.body)
                for item in node.names:
                    self.assertIsNone(item.asname)
                    self.assertGreater(len(re.findall(rf"\b{item.name}\b", text)), 1, f"{name} {item.name} is not used")
                if node.module in LIBRARY:
                    self.assertLessEqual({item.name for item in node.names}, LIBRARY[node.module])
                    continue
                self.assertTrue(node.module.startswith("allworlds."), node.module)
                file = node.module.split(".")[1] + ".py"
                goals[name].add(file)
                own = set()
                for other in found[file][1].body:
                    if isinstance(other, (ast.FunctionDef, ast.ClassDef)):
                        own.add(other.name)
                    elif isinstance(other, ast.Assign):
                        own.add(other.targets[0].id)
                self.assertLessEqual({item.name for item in node.names}, own, name)
        while goals:
            free = [name for name, others in goals.items() if not others & set(goals)]
            self.assertTrue(free, "two files import from each other")
            for name in free:
                del goals[name]

    def test_sizes_and_signatures(self):
        for where, node, _ in self.each_node():
            if isinstance(node, ast.FunctionDef):
                self.assertLessEqual(node.end_lineno - node.lineno + 1, 40, where)
                for item in node.decorator_list:
                    self.assertEqual(item.id, "property", where)
                self.assertIsNone(node.returns, where)
                self.assertIsNone(node.args.vararg, where)
                self.assertIsNone(node.args.kwarg, where)
                for value in node.args.defaults + [item for item in node.args.kw_defaults if item]:
                    self.assertIsInstance(value, (ast.Constant, ast.Tuple), where)
                if node.name.startswith("__"):
                    self.assertIn(node.name, ("__init__", "__eq__"), where)

    def test_kinds_of_nodes(self):
        for where, node, _ in self.each_node():
            self.assertNotIsInstance(node, BARRED, where)
            if isinstance(node, ast.Constant):
                self.assertIsInstance(node.value, (int, str, bool, type(None)), where)
                if isinstance(node.value, str):
                    self.assertNotIn("%", node.value, where)
            if isinstance(node, ast.BinOp) and isinstance(node.op, ast.Pow):
                self.assertIsInstance(node.right, ast.Constant, where)
                self.assertIn(node.right.value, range(65), where)
            if isinstance(node, ast.Compare):
                for op, right in zip(node.ops, node.comparators):
                    if isinstance(op, (ast.Is, ast.IsNot)):
                        self.assertIsInstance(right, ast.Constant, where)
            if isinstance(node, ast.Starred):
                self.assertNotIsInstance(node.ctx, ast.Load, where)

    def test_caught(self):
        # Only errors of the package are caught, and of one that is named only its own attributes are read.
        found = {node.name for node in sources()["errors.py"][1].body if isinstance(node, ast.ClassDef)}
        for where, node, _ in self.each_node():
            if isinstance(node, ast.Try):
                self.assertEqual((node.orelse, node.finalbody), ([], []), where)
                for handler in node.handlers:
                    self.assertIn(handler.type.id, found, where)

    def test_words(self):
        for name, (text, tree) in sources().items():
            bare = text
            for node in ast.walk(tree):
                if isinstance(node, (ast.Module, ast.ClassDef, ast.FunctionDef)) and ast.get_docstring(node):
                    bare = bare.replace(ast.get_source_segment(text, node.body[0].value), "")
            bare = re.sub(r"#.*", "", bare)
            self.assertIsNone(NOWHERE.search(bare), f"{name} {NOWHERE.search(bare)}")
            bare = re.sub(r"\b__(init|eq)__\b", "", bare)
            self.assertIsNone(re.search(r"dataclass|overload|contextmanager|__", bare), name)

    def test_names(self):
        odd = set(dir(builtins)) - {"__doc__", "_"}
        for name, (_, tree) in sources().items():
            taken = set()
            for node in tree.body:
                if isinstance(node, ast.ImportFrom):
                    taken |= {item.name for item in node.names}
                elif isinstance(node, (ast.ClassDef, ast.FunctionDef)):
                    taken.add(node.name)
                    self.assertNotIn(node.name, odd)
            for node in ast.walk(tree):
                local = ()
                if isinstance(node, ast.arg):
                    local = (node.arg,)
                elif isinstance(node, ast.Name) and isinstance(node.ctx, ast.Store):
                    local = (node.id,)
                for word in local:
                    where = f"{name}:{node.lineno} {word}"
                    self.assertNotIn(word, odd, where)
                    self.assertNotIn(word, taken, where)
                    self.assertNotIn(word, METHODS & {"items", "keys"}, where)
                if isinstance(node, ast.Name) and isinstance(node.ctx, ast.Load) and node.id in odd:
                    self.assertIn(node.id, BUILTINS, f"{name}:{node.lineno}")

    def test_unread_underscore(self):
        for where, node, _ in self.each_node():
            if isinstance(node, ast.Name) and node.id == "_":
                self.assertIsInstance(node.ctx, ast.Store, where)

    def test_methods(self):
        own = {"__init__"}
        for _, node, _ in self.each_node():
            if isinstance(node, ast.ClassDef):
                own |= {item.name for item in node.body if isinstance(item, ast.FunctionDef)}
        for where, node, around in self.each_node():
            if isinstance(node, ast.Attribute):
                call = around[node]
                if isinstance(call, ast.Call) and call.func is node:
                    self.assertIn(node.attr, METHODS | own, where)
                    self.assertEqual(call.keywords, [], where)
                else:
                    self.assertNotIn(node.attr, METHODS - {"count", "index", "copy", "add"}, where)

    def test_builtins_called(self):
        keywords = {"sorted": {"key", "reverse"}, "min": {"key", "default"}, "max": {"key", "default"},
                    "sum": {"start"}, "enumerate": {"start"}, "zip": {"strict"}}
        for where, node, around in self.each_node():
            if isinstance(node, ast.Name) and node.id in BUILTINS:
                call = around[node]
                known = isinstance(call, (ast.ClassDef, ast.FunctionDef, ast.Tuple)) or (
                    isinstance(call, ast.Call) and (call.func is node or call_name(call) == "isinstance")) or (
                    isinstance(call, ast.keyword) and call.arg == "key")
                self.assertTrue(known, where)
            if call_name(node) in BUILTINS:
                self.assertLessEqual({item.arg for item in node.keywords}, keywords.get(call_name(node), set()), where)

    def test_iterated_at_once(self):
        for where, node, around in self.each_node():
            if is_view(node):
                outer = around[node]
                good = isinstance(outer, (ast.For, ast.comprehension)) and outer.iter is node or (
                    call_name(outer) in AT_ONCE) or (
                    call_name(node) == "range" and (call_name(outer) in ("reversed", "len") or isinstance(outer, ast.Compare)))
                self.assertTrue(good, where)
                if call_name(outer) in ("enumerate", "zip") and call_name(node) != "range":
                    self.assertNotEqual(call_name(node), "reversed", where)
            if call_name(node) == "set":
                outer = around[node]
                self.assertIn(call_name(outer), ("sorted", "len"), where)
                self.assertEqual(outer.keywords, [], where)

    def test_loops_do_not_change_what_they_go_over(self):
        changing = {"append", "clear", "extend", "insert", "pop", "remove", "reverse", "setdefault", "update"}
        for where, node, _ in self.each_node():
            if isinstance(node, ast.For):
                gone_over = {item.id for item in ast.walk(node.iter) if isinstance(item, ast.Name)}
                if call_name(node.iter) in ("list", "range"):
                    continue
                for item in [deep for row in node.body for deep in ast.walk(row)]:
                    if isinstance(item, ast.Call) and isinstance(item.func, ast.Attribute) and item.func.attr in changing:
                        if isinstance(item.func.value, ast.Name):
                            self.assertNotIn(item.func.value.id, gone_over, where)
                    if isinstance(item, ast.Subscript) and not isinstance(item.ctx, ast.Load):
                        if isinstance(item.value, ast.Name):
                            self.assertNotIn(item.value.id, gone_over, where)

    def test_lambdas(self):
        for name, (text, tree) in sources().items():
            rows = [node.lineno for node in ast.walk(tree) if isinstance(node, ast.Lambda)]
            self.assertEqual(len(rows), len(set(rows)), name)

    def test_calls_fit(self):
        told = {}
        for _, node, around in self.each_node():
            if isinstance(node, ast.FunctionDef) and isinstance(around[node], ast.Module):
                told.setdefault(node.name, []).append(node.args)
        for where, node, _ in self.each_node():
            if call_name(node) in told and len(told[call_name(node)]) == 1:
                args = told[call_name(node)][0]
                names = [item.arg for item in args.args]
                passed = names[:len(node.args)] + [item.arg for item in node.keywords]
                self.assertLessEqual(len(node.args), len(names), where)
                self.assertEqual(len(passed), len(set(passed)), where)
                self.assertLessEqual(set(names[:len(names) - len(args.defaults)]), set(passed), where)
                self.assertLessEqual(set(passed), set(names) | {item.arg for item in args.kwonlyargs}, where)

    def test_classes_are_not_values(self):
        own = {node.name for _, node, _ in self.each_node() if isinstance(node, ast.ClassDef)}
        for where, node, around in self.each_node():
            if isinstance(node, ast.Name) and node.id in own:
                outer = around[node]
                self.assertTrue(isinstance(outer, (ast.ClassDef, ast.ExceptHandler)) or isinstance(outer, ast.Call) and (
                    outer.func is node or call_name(outer) == "isinstance"), where)
            if isinstance(node, ast.Raise):
                self.assertIn(call_name(node.exc), own, where)


if __name__ == "__main__":
    unittest.main()
