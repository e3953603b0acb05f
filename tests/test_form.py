"""The form of the package: those rules of its Python subset that a short look at the code can see."""

import ast
import builtins
import os
import unittest

ROOT = os.path.join(os.path.dirname(os.path.abspath(__file__)), os.pardir)
PACKAGE = os.path.join(ROOT, "duewalk")
LIBRARY = ("heapq", "math", "itertools", "collections", "__future__")
DUNDERS = ("__init__", "__str__", "__eq__", "__repr__", "__len__")
CALLED = """len range enumerate zip min max sum abs sorted reversed int str bool list tuple dict set isinstance ord repr
any all divmod""".split()
METHODS = """append clear copy count endswith extend find get index insert isalnum isalpha isdigit islower isspace isupper
items join keys ljust lower lstrip partition pop remove replace reverse rfind rjust rpartition rsplit rstrip setdefault
split splitlines startswith strip update upper values zfill bit_length add discard popleft appendleft""".split()
BARRED_NAMES = "register mro elements open input law version_info with_traceback add_note args".split()
BARRED_NODES = (
    ast.AsyncFunctionDef, ast.AsyncFor, ast.AsyncWith, ast.Await, ast.Div, ast.Global, ast.JoinedStr, ast.MatMult,
    ast.SetComp, ast.Starred, ast.GeneratorExp, ast.Import,
)
BARRED_WORDS = """type typing typing_extensions enum Enum Generic Protocol ABC namedtuple NamedTuple TypedDict
abstractmethod""".split()

INTERFACE = {
    "sites.py": "Site turned with_limits",
    "walks.py": "start_of moves_from stepped has_breach followed",
    "keeping.py": "calm_standings safe_table time_table are_safe kept_plan is_plan longest_time fewest_walkers",
    "tours.py": "greatest_waits keeps_limits distances way_back shortest_tour",
    "limits.py": "least_limit tight_limits stretch",
    "late.py": "least_share share_loop share_weights are_weights",
    "requests.py": "Asking calm_positions is_won walking_table requesting_table are_walking are_requesting",
    "rules.py": "Rule keeps_list broken_list uncovered",
    "sessions.py": "Session",
    "toil.py": "toil_of run_toil least_toil restful_plan is_restful toil_weights are_toil_weights",
    "stores.py": "need_table stock_table are_stocked short_times least_size",
    "stocked.py": "need_positions stocked_walking are_stocked_walking stocked_requesting least_size_asked",
    "costs.py": "rule_toil rule_weights are_rule_weights rule_size",
    "watches.py": "Watch",
}
METHODS_OF = {
    "Site": "__eq__ __str__ parse",
    "Asking": "__eq__ __init__",
    "Rule": "__eq__ __init__ states",
    "Session": "__init__ site standing deeds move set_limit open_way shut_way add_walker back is_kept longest freedom",
    "Watch": "__init__ position units deeds toil step is_won advice back",
}


def sources():
    for name in sorted(os.listdir(PACKAGE)):
        if name != "__pycache__":
            with open(os.path.join(PACKAGE, name), encoding="utf-8", newline="") as file:
                yield name, file.read()


class Form(unittest.TestCase):
    def test_files(self):
        names = [name for name, _ in sources()]
        self.assertIn("__init__.py", names)
        for name in names:
            self.assertRegex(name, r"\A[a-z_][a-z0-9_]*\.py\Z")

    def test_characters_and_sizes(self):
        for name, text in sources():
            self.assertRegex(text, r"\A[ -~\n]*\Z", name)
            rows = text.split("\n")
            self.assertLessEqual(len(rows), 400, name)
            self.assertLessEqual(max(len(row) for row in rows), 120, name)
            for node in ast.walk(ast.parse(text)):
                if isinstance(node, ast.FunctionDef):
                    self.assertLessEqual(node.end_lineno - node.lineno + 1, 40, (name, node.name))

    def test_module_level(self):
        for name, text in sources():
            bound = []
            for at, node in enumerate(ast.parse(text).body):
                if isinstance(node, ast.ImportFrom):
                    self.assertIn((node.module or "").split(".")[0], ("duewalk",) + LIBRARY, name)
                    self.assertTrue(node.level == 0 and all(alias.asname is None for alias in node.names), name)
                    bound.extend(alias.name for alias in node.names)
                elif isinstance(node, ast.Assign):
                    ast.literal_eval(node.value)
                    bound.append(node.targets[0].id)
                elif isinstance(node, (ast.FunctionDef, ast.ClassDef)):
                    bound.append(node.name)
                else:
                    self.assertTrue(at == 0 and isinstance(node.value, ast.Constant), (name, node.lineno))
            self.assertEqual(len(bound), len(set(bound)), name)

    def test_interface(self):
        self.assertLessEqual(set(INTERFACE), {name for name, _ in sources()})
        for name, text in sources():
            defined = [node.name for node in ast.parse(text).body if isinstance(node, (ast.FunctionDef, ast.ClassDef))]
            self.assertLessEqual(set(INTERFACE.get(name, "").split()), set(defined), name)

    def test_methods_stand_in_their_own_classes(self):
        seen = []
        for _, text in sources():
            for node in ast.parse(text).body:
                if isinstance(node, ast.ClassDef) and node.name in METHODS_OF:
                    seen.append(node.name)
                    defined = {row.name for row in node.body if isinstance(row, ast.FunctionDef)}
                    self.assertLessEqual(set(METHODS_OF[node.name].split()), defined, node.name)
        self.assertEqual(sorted(METHODS_OF), sorted(seen))

    def test_no_name_is_a_method_and_an_attribute(self):
        for name, text in sources():
            for node in ast.parse(text).body:
                if isinstance(node, ast.ClassDef):
                    methods = {row.name for row in node.body if isinstance(row, ast.FunctionDef)}
                    attributes = {part.attr for part in ast.walk(node)
                                  if isinstance(part, ast.Attribute) and isinstance(part.ctx, ast.Store)}
                    self.assertFalse(methods & attributes, (name, node.name))

    def test_generators_and_kept_iterators(self):
        at_once = ("zip", "enumerate", "reversed", "range")
        for name, text in sources():
            for node in ast.walk(ast.parse(text)):
                self.assertNotIsInstance(node, (ast.Yield, ast.YieldFrom, ast.Set), (name, getattr(node, "lineno", 0)))
                if isinstance(node, ast.Assign) and isinstance(node.value, ast.Call):
                    called = node.value.func
                    self.assertNotIn(getattr(called, "id", None) or called.attr, at_once + ("items", "keys", "values"), name)

    def test_no_two_files_import_from_each_other(self):
        above = {name: {node.module.split(".")[1] + ".py" for node in ast.parse(text).body
                        if isinstance(node, ast.ImportFrom) and node.module.startswith("duewalk.")}
                 for name, text in sources()}
        while above:
            free = [name for name in above if not above[name] & set(above)]
            self.assertTrue(free, above)
            above = {name: above[name] for name in above if name not in free}

    def test_nodes(self):
        for name, text in sources():
            own = {node.name for node in ast.walk(ast.parse(text)) if isinstance(node, (ast.FunctionDef, ast.ClassDef))}
            own |= {alias.name for node in ast.parse(text).body if isinstance(node, ast.ImportFrom) for alias in node.names}
            own |= {node.arg for node in ast.walk(ast.parse(text)) if isinstance(node, ast.arg)}
            for node in ast.walk(ast.parse(text)):
                where = (name, getattr(node, "lineno", 0))
                self.assertNotIsInstance(node, BARRED_NODES, where)
                if isinstance(node, ast.Constant):
                    self.assertNotIsInstance(node.value, (float, complex), where)
                if isinstance(node, ast.Compare) and any(isinstance(op, (ast.Is, ast.IsNot)) for op in node.ops):
                    self.assertIsInstance(node.comparators[0], ast.Constant, where)
                if isinstance(node, ast.Call) and isinstance(node.func, ast.Name):
                    self.assertIn(node.func.id, CALLED + sorted(own), where)
                if isinstance(node, ast.FunctionDef) and node.name.startswith("__"):
                    self.assertIn(node.name, DUNDERS, where)
                if isinstance(node, ast.FunctionDef):
                    self.assertLessEqual({mark.id for mark in node.decorator_list}, {"staticmethod"}, where)

    def test_no_name_is_given_another_meaning(self):
        for name, text in sources():
            tree = ast.parse(text)
            taken = {alias.name for node in tree.body if isinstance(node, ast.ImportFrom) for alias in node.names}
            taken |= {node.name for node in tree.body if isinstance(node, ast.ClassDef)} | set(dir(builtins))
            for node in ast.walk(tree):
                if isinstance(node, ast.arg):
                    self.assertNotIn(node.arg, taken, (name, node.lineno))
                if isinstance(node, ast.Name) and isinstance(node.ctx, ast.Store):
                    self.assertNotIn(node.id, taken, (name, node.lineno))
                if isinstance(node, ast.FunctionDef):
                    self.assertNotIn(node.name, dir(builtins), (name, node.lineno))

    def test_methods_that_are_called(self):
        trees = [ast.parse(text) for _, text in sources()]
        own = [node.name for tree in trees for node in ast.walk(tree) if isinstance(node, ast.FunctionDef)]
        for tree in trees:
            for node in ast.walk(tree):
                if isinstance(node, ast.Call) and isinstance(node.func, ast.Attribute):
                    self.assertIn(node.func.attr, METHODS + own, node.lineno)

    def test_words(self):
        for name, text in sources():
            for node in ast.walk(ast.parse(text)):
                for field in ("id", "arg", "attr", "name"):
                    word = getattr(node, field, None)
                    self.assertNotIn(word, BARRED_NAMES + BARRED_WORDS, name)
                    if isinstance(word, str) and word.startswith("__"):
                        self.assertIn(word, DUNDERS, name)


if __name__ == "__main__":
    unittest.main()
