"""The interface stands where the document lists it, and the package keeps to its subset of the language."""

import ast
import inspect
import pathlib
import tokenize
import unittest

PACKAGE = pathlib.Path(__file__).resolve().parent.parent / "treeshed"

INTERFACE = {
    "trees": {"Tree": ["letters", "rows"]},
    "rules": {
        "Rule": ["root", "others"], "kind_of": ["tree", "place"], "flags_of": ["rule"], "least_part": ["rule"],
        "all_trees": ["rule", "letters", "size", "values"], "known_rule": ["name"],
    },
    "routines": {"Routine": ["down", "turn", "up"]},
    "plays": {
        "call": ["tree", "routine", "word", "value"], "played": ["tree", "calls"],
        "Played": ["trees", "answers", "made", "struck", "old", "kept_shared"],
    },
    "questions": {
        "Question": ["calls", "one", "other", "aspects", "where"], "relation_of": ["pair"],
        "enough_values": ["question"], "rows_of": ["question", "words"], "stories_of": ["question", "words", "there"],
        "unlike_on": ["question", "rule", "tree", "pair"],
    },
    "tables": {
        "is_let": ["rule", "cell", "there", "root"], "longer": ["question", "rule", "words", "cell", "below"],
        "whole": ["question", "rule", "cell", "below"], "is_table": ["question", "value"],
    },
    "judging": {
        "judge": ["question", "rule", "relation", "values"],
        "Alike": ["question", "rule", "relation", "value_list", "tables"], "is_alike": ["paper"],
        "Unlike": ["question", "rule", "relation", "tree", "pair", "how"], "is_unlike": ["paper"],
        "kept_by": ["routine", "rule"], "saves": ["routine", "rule"], "undoes": ["routine", "other", "rule", "kind"],
        "keeps_cursor": ["routine", "rule", "relation", "kept"],
    },
    "books": {
        "Book": ["rows"], "pairs": ["first", "second", "rule", "relation", "alike", "values"],
        "booked": ["deeds", "rule", "relation"], "known_deeds": [], "known_book": [],
    },
    "histories": {
        "answers_of": ["deeds", "tree", "history"], "in_the_way": ["book", "deeds", "tree", "history", "number"],
        "undone": ["book", "deeds", "tree", "history", "number"], "least_row": ["book", "deeds", "tree", "history"],
    },
    "plans": {
        "Plan": ["gone", "alike", "unlike", "tidy", "flags"], "known_plan": ["name"], "with_flags": ["plan", "rule"],
    },
    "merging": {
        "merged": ["plan", "base", "one", "other"], "Merged": ["tree", "taken"], "Clash": ["place"],
        "due": ["base", "one", "other", "word"], "judged_merge": ["plan", "rule", "base", "one", "other"],
    },
    "triples": {
        "case_of": ["plan", "rule", "base", "one", "other", "place"], "empty_sum": [], "added": ["total", "case"],
        "closed": ["plan", "rule", "total", "cells", "root"],
    },
    "planned": {
        "judge_plan": ["plan", "rule"], "PlanRight": ["plan", "rule", "cases"],
        "PlanWrong": ["plan", "rule", "base", "one", "other", "how"], "is_plan_right": ["right"],
        "is_plan_wrong": ["wrong"], "needless": ["plan", "rule"],
    },
    "forks": {
        "fork_question": ["first", "second", "alike"], "fork_on": ["plan", "question", "tree", "pair"],
        "fork_longer": ["plan", "question", "rule", "words", "cell", "below"],
        "fork_whole": ["plan", "question", "rule", "cell", "below"],
        "judge_forks": ["plan", "first", "second", "rule", "relation", "alike", "values"],
        "Forks": ["plan", "first", "second", "rule", "relation", "alike", "value_list", "rows", "tables"],
        "is_forks": ["paper"],
    },
    "versions": {
        "Versions": ["tree"], "worst_new": ["routine", "rule", "letters"], "most_new": ["routine", "rule", "letters"],
    },
    "branches": {"Branches": ["tree", "deeds", "rule", "plan", "book"]},
    "groves": {"Grove": ["letters", "rules", "root"]},
    "sheds": {"Shed": ["tree", "deeds", "rule", "plan", "book"]},
}
DEFAULTS = {("questions", "Question"): [None], ("plans", "Plan"): [None], ("triples", "closed"): [False]}
METHODS = {
    ("trees", "Tree"): {
        "__eq__": ["other"], "has": ["place"], "value_of": ["word"], "row": ["place"], "below": ["place"],
        "word_items": [], "of": ["letters", "items"],
    },
    ("rules", "Rule"): {
        "__eq__": ["other"], "keeps": ["tree"], "broken_at": ["tree"], "is_exact": [], "tree_of": ["letters", "items"],
    },
    ("routines", "Routine"): {"__eq__": ["other"], "text": [], "read": ["text"]},
    ("questions", "Question"): {"__eq__": ["other"]},
    ("books", "Book"): {
        "__eq__": ["other"], "told_rows": [], "commutes": ["first", "kind", "second", "later", "relation", "alike"],
    },
    ("plans", "Plan"): {"__eq__": ["other"]},
    ("versions", "Versions"): {
        "call": ["number", "routine", "word", "value"], "merge": ["plan", "base", "one", "other"],
        "tree_at": ["number"],
        "new_places": ["number"], "shared_places": ["one", "other"], "stored": [], "kept_versions": [],
        "forget": ["number"],
    },
    ("branches", "Branches"): {
        "deeds": [], "all_names": [], "head_of": ["name"], "base_of": ["one", "other"], "tree_at": ["name"],
        "history_of": ["name"], "shared_places": ["one", "other"], "stored": [], "kept_versions": [],
        "version_tree": ["number"], "new_places": ["number"], "fork": ["name", "source"],
        "do": ["name", "deed", "word", "value"], "take": ["name", "other"], "undo": ["name", "number"],
        "drop": ["name"],
    },
    ("groves", "Grove"): {
        "rules": [], "has": ["place"], "value_of": ["word"], "row": ["place"], "below": ["place"], "unfolded": [],
        "begins": ["word"], "rank": ["word"], "word_of": ["rank"], "call": ["routine", "word", "value"],
        "same": ["other"], "differing": ["other"], "merged": ["plan", "one", "other"],
    },
    ("sheds", "Shed"): {
        "hold": ["label", "name", "place"], "let_go": ["label"], "holds": [], "log": [], "changes": ["name"],
        "replayed": ["tree", "deeds", "rule", "plan", "book", "log"], "fork": ["name", "source"],
        "do": ["name", "deed", "word", "value"], "take": ["name", "other"], "undo": ["name", "number"],
        "drop": ["name"],
    },
}
BUILTIN_METHODS = """append clear copy count endswith extend find get index insert isalnum isalpha isdigit islower
    isspace isupper items join keys ljust lower lstrip partition pop remove replace reverse rfind rjust rpartition
    rsplit rstrip setdefault split splitlines startswith strip update upper values zfill bit_length""".split()
NO_ATTRIBUTES = """items keys values pop update append clear extend insert remove reverse setdefault sort args encode
    decode hex fromhex format""".split()
LIBRARY = {
    "heapq": ["heappush", "heappop", "heapify", "heapreplace", "heappushpop"],
    "math": ["gcd", "lcm", "isqrt", "comb", "perm", "factorial"],
    "itertools": "product combinations permutations chain accumulate pairwise islice zip_longest".split(),
    "collections": ["defaultdict", "deque"], "__future__": ["annotations"],
}
BUILTINS = """len range enumerate zip min max sum abs sorted reversed int str bool bytes list tuple dict set frozenset
    isinstance ord repr any all divmod pow getattr hasattr setattr iter next map super type property
    staticmethod classmethod Exception ValueError TypeError KeyError IndexError LookupError ZeroDivisionError
    ArithmeticError OverflowError RuntimeError NotImplementedError AttributeError StopIteration
    NotImplemented""".split()
BARRED_NAMES = "register mro elements open input law version_info with_traceback add_note".split()
BARRED_WORDS = """typing typing_extensions enum Enum IntEnum StrEnum Flag IntFlag Generic Protocol ABC ABCMeta
    namedtuple NamedTuple TypedDict TYPE_CHECKING abstractmethod""".split()
CAUGHT = "KeyError ZeroDivisionError StopIteration ValueError LookupError IndexError".split()


def files():
    """The files of the package: paths, texts and what Python reads in them."""
    found = []
    for path in sorted(PACKAGE.rglob("*.py")):
        text = path.read_text("utf-8")
        found.append((path, text, ast.parse(text)))
    return found


def is_plain(node):
    """Whether a value at module level is a literal."""
    try:
        ast.literal_eval(node)
    except ValueError:
        return False
    return True


class InterfaceTest(unittest.TestCase):
    def defined(self, module):
        tree = ast.parse((PACKAGE / f"{module}.py").read_text("utf-8"))
        return {node.name: node for node in tree.body if isinstance(node, (ast.FunctionDef, ast.ClassDef))}

    def arguments(self, node):
        return [argument.arg for argument in node.args.args]

    def test_functions_and_classes_are_defined_in_their_files(self):
        for module, names in INTERFACE.items():
            defined = self.defined(module)
            for name, arguments in names.items():
                node = defined[name]
                if isinstance(node, ast.ClassDef):
                    node = [inner for inner in node.body if getattr(inner, "name", "") == "__init__"][0]
                    arguments = ["self"] + arguments
                self.assertEqual(self.arguments(node), arguments, name)

    def test_default_values(self):
        for module, names in INTERFACE.items():
            for name, node in self.defined(module).items():
                if name in names:
                    if isinstance(node, ast.ClassDef):
                        node = [inner for inner in node.body if getattr(inner, "name", "") == "__init__"][0]
                    told = [ast.literal_eval(value) for value in node.args.defaults]
                    self.assertEqual(told, DEFAULTS.get((module, name), []), name)

    def test_a_shed_is_a_class_below_branches(self):
        self.assertEqual([base.id for base in self.defined("sheds")["Shed"].bases], ["Branches"])

    def test_methods_are_defined_in_their_classes(self):
        for (module, name), methods in METHODS.items():
            inside = self.defined(module)[name].body
            body = {inner.name: inner for inner in inside if isinstance(inner, ast.FunctionDef)}
            for method, arguments in methods.items():
                self.assertEqual(self.arguments(body[method])[1:], arguments, method)

    def test_modules_can_be_imported(self):
        for module in INTERFACE:
            imported = __import__(f"treeshed.{module}", fromlist=[module])
            for name in INTERFACE[module]:
                self.assertEqual(inspect.getmodule(getattr(imported, name)).__name__, f"treeshed.{module}")


class LanguageTest(unittest.TestCase):
    def test_the_folder_holds_plain_files_alone(self):
        for path in PACKAGE.rglob("*"):
            if path.name != "__pycache__" and path.parent.name != "__pycache__":
                self.assertRegex(path.name, r"\A[a-z0-9_]+(\.py)?\Z")
                self.assertTrue((path.parent / "__init__.py").exists(), path)

    def test_sizes_and_characters(self):
        for path, text, tree in files():
            self.assertLessEqual(len(text.split("\n")), 400, path)
            self.assertLessEqual(max(map(len, text.split("\n"))), 120, path)
            self.assertLessEqual(set(text), set(map(chr, range(32, 127))) | {"\n"}, path)
            for node in ast.walk(tree):
                if isinstance(node, ast.FunctionDef):
                    self.assertLessEqual(node.end_lineno - node.lineno + 1, 40, node.name)

    def test_imports(self):
        for path, _, tree in files():
            for node in ast.walk(tree):
                self.assertNotIsInstance(node, ast.Import, path)
                if isinstance(node, ast.ImportFrom):
                    names = [name.name for name in node.names]
                    self.assertEqual([node.level, node in tree.body], [0, True], path)
                    self.assertTrue(all(name.asname is None for name in node.names), path)
                    if not node.module.startswith("treeshed."):
                        self.assertLessEqual(set(names), set(LIBRARY[node.module]), path)
                    else:
                        source = (PACKAGE / f"{node.module[9:].replace('.', '/')}.py").read_text("utf-8")
                        defined = {getattr(inner, "name", None) for inner in ast.parse(source).body}
                        defined |= {name.id for inner in ast.parse(source).body if isinstance(inner, ast.Assign)
                                    for name in inner.targets}
                        self.assertLessEqual(set(names), defined, path)

    def test_module_level(self):
        for path, _, tree in files():
            values, classes = [], []
            for node in tree.body:
                if isinstance(node, ast.Assign):
                    table = isinstance(node.value, (ast.Dict, ast.List, ast.Tuple))
                    self.assertTrue(table or is_plain(node.value), path)
                    values.extend(target.id for target in node.targets)
                elif isinstance(node, ast.ImportFrom):
                    classes.extend(name.name for name in node.names)
                elif isinstance(node, (ast.FunctionDef, ast.ClassDef)):
                    (classes if isinstance(node, ast.ClassDef) else values).append(node.name)
                else:
                    self.assertIsInstance(node.value.value, str, path)
            self.assertEqual(len(values + classes), len(set(values + classes)), path)
            for node in ast.walk(tree):
                if isinstance(node, ast.arg):
                    self.assertNotIn(node.arg, classes, path)
                if isinstance(node, ast.Name) and not isinstance(node.ctx, ast.Load):
                    self.assertNotIn(node.id, classes, path)

    def test_names(self):
        builtins = set(vars(__builtins__ if inspect.ismodule(__builtins__) else __import__("builtins")))
        for path, _, tree in files():
            for node in ast.walk(tree):
                if isinstance(node, ast.Name):
                    self.assertFalse(isinstance(node.ctx, ast.Store) and node.id in builtins, node.id)
                    self.assertFalse(node.id in builtins and node.id not in BUILTINS, f"{path} {node.id}")
                if isinstance(node, ast.arg):
                    self.assertNotIn(node.arg, builtins, path)
                for field in ("id", "arg", "attr", "name"):
                    self.assertNotIn(getattr(node, field, None), BARRED_NAMES, path)

    def test_words(self):
        for path, _, tree in files():
            with tokenize.open(path) as source:
                names = [token.string for token in tokenize.generate_tokens(source.readline)
                         if token.type == tokenize.NAME]
            self.assertFalse(set(names) & set(BARRED_WORDS), path)
            for node in ast.walk(tree):
                self.assertNotIsInstance(node, (ast.AsyncFunctionDef, ast.Await, ast.MatMult, ast.Div), path)
                if isinstance(node, ast.Constant):
                    self.assertNotIsInstance(node.value, (float, complex), path)

    def test_strings(self):
        for path, _, tree in files():
            docs = [node.body[0].value for node in ast.walk(tree)
                    if isinstance(node, (ast.Module, ast.ClassDef, ast.FunctionDef)) and ast.get_docstring(node)]
            for node in ast.walk(tree):
                if isinstance(node, ast.Constant) and isinstance(node.value, str) and node not in docs:
                    self.assertNotIn("%", node.value, path)
                    self.assertFalse(set(node.value.replace("_", " ").split()) & set(BARRED_WORDS), path)

    def test_errors_are_caught_by_name(self):
        for path, _, tree in files():
            own = [name.name for node in tree.body if isinstance(node, ast.ImportFrom)
                   and node.module == "treeshed.errors" for name in node.names]
            for node in ast.walk(tree):
                if isinstance(node, ast.ExceptHandler):
                    named = node.type.elts if isinstance(node.type, ast.Tuple) else [node.type]
                    for name in named:
                        self.assertIn(name.id, CAUGHT + own, path)

    def test_decorators(self):
        for path, _, tree in files():
            for node in ast.walk(tree):
                if isinstance(node, ast.ClassDef):
                    self.assertEqual(node.decorator_list, [], path)
                if isinstance(node, ast.FunctionDef):
                    for decorator in node.decorator_list:
                        told = decorator.id if isinstance(decorator, ast.Name) else decorator.attr
                        self.assertIn(told, ["classmethod", "staticmethod", "property", "setter"], path)

    def test_methods_and_attributes(self):
        methods, attributes, apart = {}, {}, set()
        for path, _, tree in files():
            for node in ast.walk(tree):
                if isinstance(node, ast.ClassDef):
                    for inner in [inner for inner in node.body if isinstance(inner, ast.FunctionDef)]:
                        methods.setdefault(inner.name, []).append(node.name)
                        if inner.decorator_list:
                            apart.add(inner.name)
                if isinstance(node, ast.Attribute) and isinstance(node.ctx, ast.Store):
                    attributes[node.attr] = path
        for name in attributes:
            self.assertNotIn(name, list(methods) + NO_ATTRIBUTES, attributes[name])
        for name in apart:
            self.assertEqual(len(methods[name]), 1, name)

    def test_methods_that_are_called(self):
        own = {node.name for _, _, tree in files() for node in ast.walk(tree) if isinstance(node, ast.FunctionDef)}
        for path, _, tree in files():
            for node in ast.walk(tree):
                if isinstance(node, ast.Call) and isinstance(node.func, ast.Attribute):
                    self.assertIn(node.func.attr, list(own) + BUILTIN_METHODS, path)

    def test_is_stands_beside_none_and_bools(self):
        for path, _, tree in files():
            for node in ast.walk(tree):
                if isinstance(node, ast.Compare) and isinstance(node.ops[0], (ast.Is, ast.IsNot)):
                    self.assertIn(node.comparators[0].value, (None, True, False), path)

    def test_sets_are_used_on_the_spot(self):
        for path, _, tree in files():
            near = []
            for node in ast.walk(tree):
                if isinstance(node, ast.Call) and getattr(node.func, "id", "") in ("sorted", "len"):
                    near.extend(node.args)
            for node in ast.walk(tree):
                is_set = isinstance(node, ast.Call) and getattr(node.func, "id", "") in ("set", "frozenset")
                if is_set or isinstance(node, (ast.Set, ast.SetComp)):
                    self.assertIn(node, near, path)

    def test_files_do_not_import_each_other(self):
        imports = {path.stem: [node.module[9:] for node in tree.body if isinstance(node, ast.ImportFrom)
                               and node.module.startswith("treeshed.")] for path, _, tree in files()}
        done = []
        while imports:
            free = [name for name, needed in imports.items() if all(other in done for other in needed)]
            self.assertTrue(free, imports)
            for name in free:
                done.append(name)
                del imports[name]

    def test_stars_in_calls_stand_before_names_and_attributes(self):
        for path, _, tree in files():
            for node in ast.walk(tree):
                if isinstance(node, ast.Starred):
                    self.assertIsInstance(node.value, (ast.Name, ast.Attribute, ast.List, ast.Tuple), path)

    def test_no_two_lambdas_stand_on_one_line(self):
        for path, _, tree in files():
            lines = [node.lineno for node in ast.walk(tree) if isinstance(node, ast.Lambda)]
            self.assertEqual(len(lines), len(set(lines)), path)

    def test_statements(self):
        barred = (ast.Global, ast.AsyncFor, ast.AsyncWith, ast.Yield, ast.YieldFrom, ast.Import, ast.Match)
        for path, _, tree in files():
            for node in ast.walk(tree):
                self.assertNotIsInstance(node, barred, path)

    def test_no_loop_changes_what_it_goes_over(self):
        changing = ("append", "clear", "extend", "insert", "pop", "remove", "reverse", "setdefault", "update")
        for path, _, tree in files():
            for loop in [node for node in ast.walk(tree) if isinstance(node, ast.For)]:
                over = ast.unparse(loop.iter)
                for node in [inner for told in loop.body for inner in ast.walk(told)]:
                    if isinstance(node, ast.Call) and getattr(node.func, "attr", "") in changing:
                        self.assertNotEqual(ast.unparse(node.func.value), over, path)
                    if isinstance(node, (ast.Subscript, ast.Attribute)) and not isinstance(node.ctx, ast.Load):
                        self.assertNotEqual(ast.unparse(node.value), over, path)

    def test_no_generator_expression_where_a_list_is_asked_for(self):
        for path, _, tree in files():
            for node in ast.walk(tree):
                if isinstance(node, ast.Call) and getattr(node.func, "id", "") in "any all min max sum sorted".split():
                    self.assertFalse(any(isinstance(told, ast.GeneratorExp) for told in node.args), path)
