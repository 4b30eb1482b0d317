"""How the package is written: some of the rules of LANGUAGE.md, and the interface by its names."""

import ast
import builtins
import importlib
import inspect
import os
import unittest

from tests.run import ROOT

PACKAGE = os.path.join(ROOT, "upforgood")
LIBRARY = {"math": ["comb", "lcm"]}
ALLOWED_BUILTINS = """
len range enumerate zip min max sum abs sorted reversed int str bool bytes list tuple dict set frozenset isinstance
ord repr any all divmod pow ValueError
""".split()
ALLOWED_METHODS = """
append clear copy count endswith extend find get index insert isalnum isalpha isdigit islower isspace isupper items
join keys ljust lower lstrip partition pop remove replace reverse rfind rjust rpartition rsplit rstrip setdefault
split splitlines startswith strip update upper values zfill bit_length add discard
""".split()
DOUBLE = ["__init__", "__eq__"]
NOT_USED = """
mro elements open input law version_info with_traceback add_note register type typing enum Enum Flag Generic Protocol
ABC namedtuple dataclass overload contextmanager
""".split()
INTERFACE = {
    "numbers": {
        "factorial": "number", "choose": "number many", "arrangements": "parts", "even_parts": "total many",
        "most_arranged": "total rounds rest",
    },
    "ranks": {
        "many_rounds": "count sizes", "rounds_of": "rank kinds sizes", "rank_of": "rounds kinds",
        "many_raised": "count sizes", "raised_of": "rank wires sizes", "raised_rank": "rounds wires",
        "answers_of": "rounds wires",
    },
    "lines": {
        "is_spec": "value",
        "Line": {
            "__init__": "spec", "kinds": "side", "send": "side kind", "come": "side kind", "sent": "side",
            "come_to": "side", "under_way": "side", "unsent": "side", "left": "", "copy": "",
        },
    },
    "trees": {
        "Tree": {"__init__": "ends lines", "__eq__": "other", "neighbours": "end", "spec": "u w"},
        "path": "tree u w", "beyond": "tree u w",
    },
    "texts": {
        "is_text": "tree value", "values_of": "step", "due_of": "step value", "own_row": "tree text u w",
    },
    "programs": {
        "Table": {
            "__init__": "first rows", "__eq__": "other", "first": "", "step": "standing event", "rows": "",
        },
        "Folded": {"__init__": "program folds", "first": "", "step": "standing event"},
    },
    "rows": {
        "can_tell": "row own other", "fits": "row own other value", "plan": "row own other",
        "left_by": "value own other", "stairs": "row most", "stairs_hold": "row most value",
    },
    "wires": {
        "can_raise": "row wires", "raise_fits": "row wires value", "raise_plan": "row wires", "leasts": "row", "most_raised": "wires",
    },
    "keeping": {
        "can_keep": "tree text", "papers": "tree text", "is_paper": "tree text value", "barred": "tree text", "uses": "tree text value at",
    },
    "ends": {"Made": {"first": "", "step": "standing event"}, "made": "tree text value"},
    "worlds": {
        "World": {
            "__init__": "tree text programs", "turn": "", "asked": "", "under_way": "", "is_over": "", "fault": "", "hand": "value",
            "answer": "end number", "give": "u w kind", "decided": "end", "done": "", "line": "u w", "run": "", "calm": "", "copy": "",
        },
        "fault_of": "tree text programs run",
    },
    "judging": {"judged": "tree text programs most", "tabled": "tree text programs most"},
    "breaking": {"broken": "tree text programs"},
    "leasts": {
        "least_pairs": "row most", "least_wires": "ends pairs text", "can_tell_within": "row own other answers letters",
        "fewest_answers": "row own other", "fewest_kinds": "row own other",
    },
    "service": {
        "can_serve": "value times first second", "can_serve_raised": "value times wires", "most_served": "tree value most",
    },
    "servers": {
        "Service": {
            "__init__": "tree value times", "free": "", "hand": "end number", "give": "u w kind", "under_way": "", "calm": "",
            "decided": "end", "count": "", "left": "u w",
        },
    },
    "exchange": {
        "both": "own other", "both_known": "own other",
        "Exchange": {
            "__init__": "own other known", "numbers": "", "hand": "side value", "give": "side kind", "under_way": "", "calm": "", "decided": "side",
            "knows": "side",
        },
    },
    "sessions": {"Session": {"__init__": "", "do": "line", "lines": "", "undo": "", "redo": ""}, "play": "lines"},
    "noes": {
        "no_paper": "tree text", "is_no_paper": "tree text value", "told_until": "row own other", "raised_until": "row wires",
    },
    "costs": {
        "allowed": "ends pairs texts u w", "cheapest": "ends pairs prices texts", "cost_of": "tree prices",
    },
    "merging": {"least_table": "table", "parting": "one other", "least_tables": "programs"},
    "turnings": {
        "row_of": "order", "can_order": "spec order", "orders": "spec messages", "kept_order": "tree tells", "room": "row own other",
        "room_raised": "row wires", "room_of": "tree text at",
    },
    "records": {
        "record_of": "tree text programs run", "read_record": "lines", "untruth": "lines", "is_true": "value",
    },
    "bench": {
        "Bench": {
            "__init__": "tree", "put": "name text", "drop": "name", "change": "u w spec", "names": "", "tree": "", "text": "name", "barred": "name",
            "verdicts": "", "spare": "u w", "needs": "u w", "compared": "one other", "undo": "", "redo": "", "deeds": "",
        },
    },
    "stars": {
        "gathered": "kinds answers", "spread": "kinds answers",
        "Gather": {
            "__init__": "kinds answers", "hand": "end value", "give": "u w kind", "under_way": "", "calm": "", "decided": "",
        },
        "Spread": {"__init__": "kinds answers", "hand": "value", "give": "u w kind", "under_way": "", "calm": "", "decided": ""},
    },
}


def files():
    return sorted(os.listdir(PACKAGE))


def source(name):
    with open(os.path.join(PACKAGE, name), encoding="utf-8") as file:
        return file.read()


def trees():
    return [(name, ast.parse(source(name))) for name in files()]


def nodes(kind):
    return [(name, node) for name, tree in trees() for node in ast.walk(tree) if isinstance(node, kind)]


class Form(unittest.TestCase):
    def test_files(self):
        for name in files():
            stem, _, ending = name.rpartition(".")
            self.assertEqual(ending, "py", name)
            self.assertTrue(stem.replace("_", "").isalnum() and stem == stem.lower(), name)
            self.assertNotIn(stem, vars(builtins), name)
        self.assertIn("__init__.py", files())

    def test_sizes(self):
        for name in files():
            text = source(name)
            self.assertTrue(all(" " <= sign <= "~" or sign == "\n" for sign in text), name)
            lines = text.split("\n")
            self.assertLessEqual(len(lines), 399, name)
            self.assertLessEqual(max([len(line) for line in lines]), 120, name)
        for name, node in nodes(ast.FunctionDef):
            self.assertLessEqual(node.end_lineno - node.lineno + 1, 40, (name, node.name))

    def test_imports(self):
        self.assertEqual(nodes(ast.Import), [])
        for name, node in nodes(ast.ImportFrom):
            self.assertEqual((node.level, [part.asname for part in node.names if part.asname]), (0, []), name)
            words = [part.name for part in node.names]
            if node.module in LIBRARY:
                self.assertTrue(all(word in LIBRARY[node.module] for word in words), (name, words))
                continue
            package, _, module = node.module.partition(".")
            self.assertEqual(package, "upforgood", name)
            body = ast.parse(source(module + ".py")).body
            defined = [part.name for part in body if hasattr(part, "name")]
            defined += [target.id for part in body if isinstance(part, ast.Assign) for target in part.targets]
            self.assertTrue(all(word in defined for word in words), (name, words))

    def test_module_level(self):
        for name, tree in trees():
            self.assertIsNotNone(ast.get_docstring(tree), name)
            bound = []
            for node in tree.body[1:]:
                self.assertIsInstance(node, (ast.ImportFrom, ast.FunctionDef, ast.ClassDef, ast.Assign), name)
                if isinstance(node, ast.Assign):
                    bound += [target.id for target in node.targets]
                elif isinstance(node, ast.ImportFrom):
                    bound += [part.name for part in node.names]
                else:
                    bound.append(node.name)
            self.assertEqual(len(bound), len(set(bound)), name)

    def test_statements_and_expressions(self):
        barred = (
            ast.GeneratorExp, ast.Global, ast.Nonlocal, ast.AsyncFunctionDef, ast.Div, ast.Yield, ast.YieldFrom, ast.With, ast.Lambda, ast.NamedExpr, ast.Set, ast.Starred, ast.JoinedStr, ast.AnnAssign,
        )
        self.assertEqual(nodes(barred), [])
        for name, node in nodes(ast.Constant):
            self.assertNotIsInstance(node.value, (float, complex), name)
            self.assertFalse(isinstance(node.value, str) and "\x25" in node.value, name)
        for name, node in nodes(ast.FunctionDef):
            self.assertEqual((node.decorator_list, node.args.vararg, node.args.kwarg), ([], None, None), name)

    def test_only_own_errors_are_caught(self):
        own = [node.name for node in ast.parse(source("errors.py")).body if isinstance(node, ast.ClassDef)]
        for name, node in nodes(ast.Try):
            self.assertEqual((node.finalbody, node.orelse), ([], []), name)
            for handler in node.handlers:
                self.assertIn(handler.type.id, own, name)
                self.assertIsNone(handler.name, name)

    def test_names(self):
        for name, tree in trees():
            own = [node.name for node in ast.walk(tree) if getattr(node, "name", None)]
            stored = [node.id for node in ast.walk(tree) if isinstance(node, ast.Name) and node.id not in own]
            parameters = [node.arg for node in ast.walk(tree) if isinstance(node, ast.arg)]
            attributes = [node.attr for node in ast.walk(tree) if isinstance(node, ast.Attribute)]
            for word in own + stored + parameters + attributes:
                self.assertNotIn(word, NOT_USED, name)
                self.assertTrue(word in DOUBLE or not word.startswith("__"), (name, word))
            for word in [node.name for node in tree.body if hasattr(node, "name")] + parameters:
                self.assertNotIn(word, vars(builtins), name)
            for node in ast.walk(tree):
                if isinstance(node, ast.Name) and node.id in vars(builtins):
                    self.assertIsInstance(node.ctx, ast.Load, (name, node.id))
                    self.assertIn(node.id, ALLOWED_BUILTINS, name)

    def test_no_imports_in_a_circle(self):
        needs = {}
        for name, tree in trees():
            modules = [node.module for node in tree.body if isinstance(node, ast.ImportFrom) and node.module not in LIBRARY]
            needs[name[:-3]] = [module.partition(".")[2] for module in modules]
        while needs:
            free = [name for name in needs if not needs[name]]
            self.assertTrue(free, needs)
            needs = {name: [other for other in others if other not in free] for name, others in needs.items() if name not in free}

    def test_each_name_means_one_thing(self):
        """No parameter and no local variable has the name of an import or a class of its file; nothing is left over."""
        for name, tree in trees():
            taken = [part.name for node in tree.body if isinstance(node, ast.ImportFrom) for part in node.names]
            functions = [node.name for node in tree.body if isinstance(node, ast.FunctionDef)]
            used = [node.id for node in ast.walk(tree) if isinstance(node, ast.Name) and isinstance(node.ctx, ast.Load)]
            for word in taken + [word for word in functions if word.startswith("_")]:
                self.assertIn(word, used, name)
            taken += [node.name for node in tree.body if isinstance(node, ast.ClassDef)] + functions
            local = [node.arg for node in ast.walk(tree) if isinstance(node, ast.arg)]
            local += [node.id for node in ast.walk(tree) if isinstance(node, ast.Name) and isinstance(node.ctx, ast.Store)]
            for word in local:
                self.assertNotIn(word, taken, name)

    def test_methods_and_attributes(self):
        """Own methods are used somewhere or listed by the interface, and none has the name of an attribute of its class."""
        listed = [word for words in INTERFACE.values() for told in words.values() if isinstance(told, dict) for word in told]
        read = [node.attr for _, node in nodes(ast.Attribute)]
        for name, node in nodes(ast.ClassDef):
            methods = [part.name for part in node.body if isinstance(part, ast.FunctionDef)]
            stored = [part.attr for part in ast.walk(node) if isinstance(part, ast.Attribute) and isinstance(part.ctx, ast.Store)]
            self.assertEqual(set(methods) & set(stored), set(), (name, node.name))
            for method in methods:
                self.assertTrue(method in listed or method in read, (name, method))

    def test_methods(self):
        own = [node.name for _, node in nodes(ast.FunctionDef)]
        for name, node in nodes(ast.Call):
            if isinstance(node.func, ast.Attribute):
                self.assertIn(node.func.attr, own + ALLOWED_METHODS, name)

    def test_only_tests_stand_beside_it(self):
        for name in files():
            self.assertFalse(name.startswith("test"), name)


class Interface(unittest.TestCase):
    def test_defined_where_it_is_listed(self):
        for module, listed in INTERFACE.items():
            defined = {node.name: node for node in ast.parse(source(module + ".py")).body if hasattr(node, "name")}
            for name, told in listed.items():
                if isinstance(told, str):
                    self.takes(defined[name], told.split())
                else:
                    self.has_methods(defined[name], told)

    def has_methods(self, node, told):
        methods = {part.name: part for part in node.body if isinstance(part, ast.FunctionDef)}
        for name, parameters in told.items():
            self.takes(methods[name], ["self"] + parameters.split())

    def takes(self, node, parameters):
        self.assertEqual([part.arg for part in node.args.args], parameters, node.name)
        self.assertEqual((node.args.kwonlyargs, node.args.defaults), ([], []), node.name)

    def test_imported_from_its_module(self):
        for module, listed in INTERFACE.items():
            found = importlib.import_module("upforgood." + module)
            for name in listed:
                self.assertEqual(inspect.getmodule(getattr(found, name)), found)


if __name__ == "__main__":
    unittest.main()
