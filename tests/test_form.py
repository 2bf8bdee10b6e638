"""The form of the package: the rules of LANGUAGE.md that can be counted, and the interface of DOC.md."""

import ast
import inspect
import unittest
from pathlib import Path

from elsetold import (beats, choosing, counts, desk, errors, lots, nights, papers, reaches, texts, underway, watchers,
                      ways, webs)

PACKAGE = Path(__file__).resolve().parent.parent / "elsetold"
LIBRARY = {"heapq": ["heappush", "heappop"]}
BUILTINS = """len range enumerate zip min max sum abs sorted reversed int str bool list tuple dict set isinstance ord repr
any all divmod super ValueError""".split()
METHODS_OF_BUILTINS = """append count endswith extend find get index insert items join keys partition pop remove replace
setdefault split startswith strip update values __init__""".split()
BARRED_NODES = (ast.Global, ast.AsyncFunctionDef, ast.AsyncFor, ast.AsyncWith, ast.Await, ast.Div, ast.Import)
BARRED_WORDS = """register mro elements open input law version_info with_traceback add_note attrgetter breakpoint builtins
compile copyright credits delattr dir eval exec exit gc globals help id importlib license locals methodcaller os quit
setattr type vars sys""".split()
INTERFACE = {
    webs: {"is_web": ["thing"], "neighbours": ["web", "place"], "parts": ["web"], "odd_round": ["web"]},
    beats: {"beat_by_beat": ["web", "starters"], "hearers_at": ["web", "starters", "beat"]},
    reaches: {
        "reaches": ["web", "starters", "place"], "hearings": ["web", "starters", "place"],
        "heard_of": ["web", "starters", "place", "beat"], "tells": ["web", "starters", "place", "beat"],
        "told_at": ["web", "starters", "place", "other"],
    },
    counts: {
        "tellings": ["web", "starters"], "tellings_by": ["web", "starters", "beat"],
        "how_many_hear": ["web", "starters", "beat"], "last_beat": ["web", "starters"],
        "loudest": ["web", "starters"], "dying": ["web", "starters"],
    },
    papers: {
        "walk_to": ["web", "starters", "place", "beat"], "is_walk": ["web", "starters", "place", "beat", "thing"],
        "all_reaches": ["web", "starters"], "are_bounds": ["web", "starters", "thing"],
        "shows_not_sooner": ["web", "starters", "place", "beat", "thing"],
    },
    lots: {
        "whose": ["web", "starters", "place", "beat"], "gone_twice": ["web", "starters"],
        "alike_from": ["web", "starters", "others"], "told_apart": ["web", "starters", "others"],
    },
    watchers: {
        "may_begin": ["web", "record"], "lots_counted": ["web", "record"], "least_lot": ["web", "record"],
        "torn": ["web", "record"], "is_torn": ["web", "record", "thing"],
    },
    ways: {
        "with_way": ["web", "one", "other", "beats"], "without_way": ["web", "one", "other"],
        "needless": ["web", "starters"], "in_all_odd_rounds": ["web"],
    },
    choosing: {
        "soonest": ["web"], "latest": ["web"], "alone_by": ["web", "place", "beats"], "best_two": ["web"],
    },
    underway: {"next_tellings": ["web", "said"], "round_of": ["web", "said"]},
    nights: {"Night": ["web"]},
    texts: {"show_web": ["web"], "show_record": ["record"], "read_web": ["text"], "read_record": ["text"]},
    desk: {"Desk": []},
    errors: {"TooMany": ["many"], "NoText": ["row"]},
}
METHODS = {
    nights.Night: {
        "begin": ["cry", "starters"], "go_on": ["beats"], "add": ["one", "other", "beats"], "lose": ["one", "other"],
        "back": [], "web_now": [], "beat_now": [], "told": ["cry"], "last_of": ["cry"], "cries": [],
        "heard_at": ["cry", "place"], "cries_heard": ["place"], "quiet_cries": [], "history": [], "twin": [],
        "__eq__": ["other"], "__len__": [],
    },
    desk.Desk: {"say": ["row"]},
}


def files():
    """All files of the package, with their texts and trees."""
    found = []
    for path in sorted(PACKAGE.rglob("*.py")):
        text = path.read_text(encoding="utf-8")
        found.append((path, text, ast.parse(text)))
    return found


class Form(unittest.TestCase):
    def test_only_plain_files_in_the_folder(self):
        for path in PACKAGE.rglob("*"):
            if "__pycache__" not in path.parts:
                self.assertEqual(path.suffix, ".py")
                self.assertEqual(path.name, path.name.lower())
        self.assertTrue((PACKAGE / "__init__.py").exists())

    def test_size_and_signs(self):
        for path, text, tree in files():
            lines = text.split("\n")
            self.assertLessEqual(len(lines), 399, path)
            self.assertLessEqual(max([len(line) for line in lines]), 120, path)
            self.assertTrue(all([sign == "\n" or " " <= sign <= "~" for sign in text]), path)
            for node in ast.walk(tree):
                if isinstance(node, ast.FunctionDef):
                    self.assertLessEqual(node.end_lineno - node.lineno + 1, 40, node.name)
                    self.assertEqual(node.decorator_list, [])

    def test_the_head_of_a_file(self):
        for path, _, tree in files():
            self.assertIsNotNone(ast.get_docstring(tree), path)
            for node in tree.body[1:]:
                self.assertIsInstance(node, (ast.ImportFrom, ast.FunctionDef, ast.ClassDef, ast.Assign), path)
                if isinstance(node, ast.ImportFrom):
                    self.assert_import(path, node)
                if isinstance(node, ast.Assign):
                    functions = [each.name for each in tree.body if isinstance(each, ast.FunctionDef)]
                    self.assert_plain(node.value, functions)

    def assert_plain(self, value, functions):
        """A module's value is plain, or a dict of functions of that file."""
        if isinstance(value, ast.Dict) and isinstance(value.values[0], ast.Name):
            self.assertLessEqual({each.id for each in value.values}, set(functions))
        else:
            ast.literal_eval(value)

    def assert_import(self, path, node):
        self.assertEqual(node.level, 0, path)
        self.assertTrue(all([alias.asname is None for alias in node.names]), path)
        names = [alias.name for alias in node.names]
        if node.module in LIBRARY:
            self.assertLessEqual(set(names), set(LIBRARY[node.module]), path)
            return
        self.assertTrue(node.module.startswith("elsetold."), path)
        source = ast.parse((PACKAGE / (node.module.split(".")[1] + ".py")).read_text(encoding="utf-8"))
        defined = [each.name for each in source.body if isinstance(each, (ast.FunctionDef, ast.ClassDef))]
        defined.extend([each.targets[0].id for each in source.body if isinstance(each, ast.Assign)])
        self.assertLessEqual(set(names), set(defined), path)

    def test_words_and_signs_that_do_not_occur(self):
        for path, _, tree in files():
            for node in ast.walk(tree):
                self.assertNotIsInstance(node, BARRED_NODES, path)
                if isinstance(node, ast.Constant):
                    self.assertNotIsInstance(node.value, (float, complex), path)
                if isinstance(node, ast.Constant) and isinstance(node.value, str):
                    self.assertNotIn(chr(37), node.value, path)
                if isinstance(node, (ast.Name, ast.FunctionDef, ast.ClassDef, ast.arg)):
                    name = getattr(node, "id", None) or getattr(node, "name", None) or node.arg
                    self.assertNotIn(name, BARRED_WORDS, path)

    def test_builtins(self):
        for path, _, tree in files():
            bound = {alias.name for node in ast.walk(tree) if isinstance(node, ast.ImportFrom) for alias in node.names}
            bound |= {node.name for node in ast.walk(tree) if isinstance(node, (ast.FunctionDef, ast.ClassDef))}
            bound |= {node.arg for node in ast.walk(tree) if isinstance(node, ast.arg)}
            names = [node for node in ast.walk(tree) if isinstance(node, ast.Name)]
            bound |= {node.id for node in names if isinstance(node.ctx, ast.Store)}
            read = {node.id for node in names if isinstance(node.ctx, ast.Load)}
            self.assertLessEqual(read - bound, set(BUILTINS), path)
            self.assertFalse(bound & set(dir(__builtins__) if inspect.ismodule(__builtins__) else __builtins__), path)

    def test_no_variable_has_the_name_of_an_import_or_a_class(self):
        for path, _, tree in files():
            fixed = {alias.name for node in tree.body if isinstance(node, ast.ImportFrom) for alias in node.names}
            fixed |= {node.name for node in tree.body if isinstance(node, (ast.ClassDef, ast.FunctionDef))}
            local = {node.arg for node in ast.walk(tree) if isinstance(node, ast.arg)}
            names = [node for node in ast.walk(tree) if isinstance(node, ast.Name)]
            local |= {node.id for node in names if isinstance(node.ctx, ast.Store)}
            self.assertFalse(fixed & local, path)

    def test_methods_of_builtin_values(self):
        own = {node.name for _, _, tree in files() for node in ast.walk(tree) if isinstance(node, ast.FunctionDef)}
        for path, _, tree in files():
            for node in ast.walk(tree):
                if isinstance(node, ast.Call) and isinstance(node.func, ast.Attribute):
                    self.assertIn(node.func.attr, own | set(METHODS_OF_BUILTINS), path)

    def test_nothing_is_caught_and_nothing_is_generated(self):
        for path, _, tree in files():
            for node in ast.walk(tree):
                self.assertNotIsInstance(node, (ast.Try, ast.With, ast.Lambda, ast.GeneratorExp, ast.Yield), path)

    def test_everything_says_what_it_does(self):
        for path, _, tree in files():
            holders = [node for node in ast.walk(tree) if isinstance(node, (ast.ClassDef, ast.FunctionDef))]
            for holder in holders:
                if holder.name != "__init__":
                    self.assertIsNotNone(ast.get_docstring(holder), (path, holder.name))


class Interface(unittest.TestCase):
    def test_each_name_stands_in_its_own_file_with_its_arguments(self):
        for module, names in INTERFACE.items():
            for name, arguments in names.items():
                made = getattr(module, name)
                self.assertEqual(made.__module__, module.__name__)
                self.assert_arguments(made, arguments)

    def test_each_method_stands_in_its_own_class_with_its_arguments(self):
        for made, names in METHODS.items():
            for name, arguments in names.items():
                self.assert_arguments(vars(made)[name], ["self", *arguments])

    def assert_arguments(self, made, arguments):
        signature = inspect.signature(made)
        self.assertEqual(list(signature.parameters), arguments)
        for argument in signature.parameters.values():
            self.assertEqual(argument.kind, argument.POSITIONAL_OR_KEYWORD)
            self.assertIs(argument.default, argument.empty)
