"""The form of the package's files, as far as a test can see it, and the interface."""

import ast
import os
import re
import unittest

PACKAGE = os.path.join(os.path.dirname(os.path.dirname(os.path.abspath(__file__))), "labelclocks")
BUILTINS = """len range enumerate zip min max sum abs sorted reversed int str bool list tuple dict set isinstance ord repr any
all divmod""".split()
OWN_ERRORS = ("ValueError", "KeyError")
METHODS = """append clear copy count endswith extend find get index insert isalnum isalpha isdigit islower isspace isupper
items join keys ljust lower lstrip partition pop remove replace reverse rfind rjust rpartition rsplit rstrip setdefault
split splitlines startswith strip update upper values zfill bit_length""".split()
BARRED_NAMES = """register mro elements open input law version_info with_traceback add_note attrgetter breakpoint builtins
compile copyright credits delattr dir eval exec exit gc getattr globals hasattr help id importlib license locals
methodcaller os quit setattr super type vars sys filter map next iter hash format print round pow chr bytes object
callable""".split()
BARRED_WORDS = """type typing typing_extensions enum Enum IntEnum StrEnum Flag IntFlag Generic Protocol ABC ABCMeta
namedtuple NamedTuple TypedDict TYPE_CHECKING abstractmethod _wall _WallAttr""".split()
BARRED_ATTRIBUTES = """items keys values pop update append clear extend insert remove reverse setdefault sort args encode
decode hex fromhex format""".split()
# in the order in which they may import from one another
INTERFACE = {
    "codelabels": ["is_code_label(value)", "is_station(value)"],
    "kinds": [
        "is_name(value)", "is_plain(value)", "is_kind(value)", "words_of(kind)", "inner_kind(kind, trail)",
        "offset_of(kind, trail)", "trails(kind)"],
    "units": ["is_unit(value)", "is_program(value)", "labels_of(unit, f)", "stations_of(unit, f)"],
    "lines": ["tokens_of(text)"],
    "texts": [
        "kind_text(kind)", "unit_text(unit)", "program_text(program)", "spot_of(unit, f, path)", "label_spots(unit, f)"],
    "readtexts": ["kind_of(text)", "unit_of(text)", "program_of(text)", "completed_unit(text)", "completed(text)"],
    "meaning": [],
    "sourceroads": ["road_book(unit)", "is_road_book(value)", "follows(program, labels)"],
    "loose": ["is_loose(value)"],
    "given": ["unmarked(rows, f)", "lacking(rows, f)"],
    "rows": ["is_rows(value)"],
    "rowruns": [],
    "rowroads": ["blocks_of(all_rows, labels)"],
    "rownames": ["names_held(unit, f)"],
    "lowering": ["lowered(unit)"],
    "folding": ["known(rows, f)"],
    "copying": ["sources(rows, f)"],
    "needing": ["needed(rows, f)"],
    "reading": [
        "is_reading(value)", "read(readings, labels)", "frames(readings, labels)",
        "entered(readings, unit, top, k, f)", "turned(readings, unit, top, k)"],
    "passes": ["is_word(value)", "passed(rows, roads, reading, word)", "chosen(unit, words)"],
    "cells": ["is_cell(value, size, registers, cells)", "read_registers(cell)", "written_register(cell)"],
    "liveness": ["alive_at(rows, f, block, at)", "road_to_read(rows, f, block, at, temp)"],
    "clashes": ["clashes(rows, f)", "across(rows, f)", "held_temps(rows, f)", "core(rows, f, registers)"],
    "frames": ["area(rows, f, i)", "places(rows, f, registers)", "placed(rows, registers)"],
    "judging": ["is_placing(rows, f, registers, value)", "judge(rows, f, registers, placing, paper)"],
    "ownpapers": ["paper_of(rows, f, registers)"],
    "books": ["is_book(value)", "even_book(beats)"],
    "images": ["is_image(value)"],
    "machine": [],
    "objects": ["is_object(value)", "same_face(one, other)"],
    "compiling": ["compiled(unit, words, registers)"],
    "linking": [
        "linked(objects, main, room, needed)", "addresses(objects, main, room, needed)", "store_at(objects, unit, x)"],
    "led": ["is_led(thing)"],
    "prices": ["prices(thing, book)", "sum_of(table, labels)"],
    "clocks": ["foretold(objects, book, trace, stations)"],
    "webs": ["is_web(value)", "useful(web)"],
    "words": ["is_words(web, words)", "measures(web, words)"],
    "papers": [
        "heights(web, den, prices)", "is_priced(web, den, prices, told)", "is_bag(web, words, weights, divisor, den)",
        "priced(web)"],
    "imagewebs": ["web_of(image, book)"],
    "extremes": [
        "least(web)", "is_least(web, number, heights, words)", "is_below(web, words, ring)", "revalued(web, weights)"],
    "labelwebs": ["label_web(sides, main, rounds)", "totals(names, sides, books)"],
    "bounds": ["between(objects, main, book, rounds)", "gap(one, other, main, book, rounds)"],
    "needs": ["needed(objects, main)", "depth_of(objects, main, chain)"],
    "labeltexts": ["label_text(label)", "label_of(text)", "passes_text(words)", "passes_of(text)"],
    "bench": [],
    "desk": [],
}
CLASSES = {
    "meaning.Run(program, inputs)": [
        "go(many)", "trace()", "stations()", "state()", "left()", "calls()", "frames()", "cells(unit, store)", "wraps()"],
    "rowruns.RowRun(all_rows, inputs)": [
        "go(many)", "trace()", "stations()", "state()", "left()", "cells(unit, store)", "calls()", "frames()",
        "trodden()"],
    "machine.Machine(image, inputs, book)": [
        "go(many)", "reach(items, most)", "trace()", "stations()", "clocks()", "stacks()", "steps()", "beats()",
        "state()", "left()", "pointer()", "registers()", "word(address)", "copy()"],
    "bench.Bench(program, book)": [
        "put(unit)", "drop(name)", "make(name, words, registers)", "arrange(names)", "house(room)", "charge(book)",
        "begin(inputs)", "go(steps)", "keep(name)", "back(name)", "undo()", "ways(name)", "made(name)", "image()",
        "machine()", "source()", "told()", "would(name, words, registers)", "profile()", "listing(name)", "copy()",
        "tried(task)", "program()", "names()", "book()", "room()", "inputs()", "kept()", "log()", "__len__()",
        "__eq__(other)"],
    "desk.Desk()": ["say(line)"],
}
# what the package takes from Python's own library
LIBRARY = {"math": ["gcd"]}


def files():
    """The pairs (name without its end, text) of the package's files."""
    found = []
    for name in sorted(os.listdir(PACKAGE)):
        if name != "__pycache__":
            with open(os.path.join(PACKAGE, name), encoding="utf-8", newline="") as file:
                found.append((name, file.read()))
    return found


def functions_in(tree):
    return [node for node in ast.walk(tree) if isinstance(node, (ast.FunctionDef, ast.Lambda))]


def parameters(function):
    """The names of a function's parameters."""
    told = function.args
    return [arg.arg for arg in told.posonlyargs + told.args + told.kwonlyargs]


def signature(function, skip=0):
    """Such as "words_of(kind)", default values left out."""
    inside = ", ".join(parameters(function)[skip:])
    return f"{function.name}({inside})"


def bound_names(tree):
    """All names that something in a file is called."""
    found = []
    for node in ast.walk(tree):
        if isinstance(node, ast.Name) and isinstance(node.ctx, ast.Store):
            found.append(node.id)
        elif isinstance(node, (ast.FunctionDef, ast.ClassDef)):
            found.append(node.name)
        elif isinstance(node, ast.arg):
            found.append(node.arg)
        elif isinstance(node, ast.ExceptHandler) and node.name:
            found.append(node.name)
    return found


class FormTest(unittest.TestCase):

    def setUp(self):
        self.files = files()
        self.trees = [(name, ast.parse(text)) for name, text in self.files]

    def test_files(self):
        self.assertLessEqual(len(self.files), 100)
        for name, text in self.files:
            self.assertRegex(name, r"^(__init__|[a-z][a-z0-9_]*)\.py$")
            self.assertLessEqual(text.count("\n"), 399, name)
            for line in text.split("\n"):
                self.assertLessEqual(len(line), 120, f"{name}: {line}")
                self.assertTrue(all(" " <= sign <= "~" for sign in line), f"{name}: {line}")
        self.assertEqual(dict(self.files)["__init__.py"], "")

    def test_functions_are_short(self):
        for name, tree in self.trees:
            for node in functions_in(tree):
                self.assertLessEqual(node.end_lineno - node.lineno + 1, 40, f"{name}:{node.lineno}")

    def test_imports(self):
        imported = {}
        defined = {}
        for name, tree in self.trees:
            imported[name] = []
            defined[name] = [node.name for node in tree.body if isinstance(node, (ast.FunctionDef, ast.ClassDef))]
            for node in tree.body:
                if isinstance(node, ast.Assign):
                    defined[name].append(node.targets[0].id)
        for name, tree in self.trees:
            for node in ast.walk(tree):
                self.assertNotIsInstance(node, ast.Import, name)
                if isinstance(node, ast.ImportFrom) and node.module in LIBRARY:
                    self.assertLessEqual({alias.name for alias in node.names}, set(LIBRARY[node.module]), name)
                elif isinstance(node, ast.ImportFrom):
                    self.assertTrue(node.module.startswith("labelclocks."), name)
                    origin = node.module[len("labelclocks."):] + ".py"
                    for alias in node.names:
                        self.assertIsNone(alias.asname)
                        self.assertIn(alias.name, defined[origin], f"{name}: {alias.name}")
                        self.assertFalse(alias.name.startswith("_"), f"{name}: {alias.name}")
                    imported[name].append(origin)
        self.ask_no_ring(imported)
        self.ask_order(imported)

    def ask_no_ring(self, imported):
        left = dict(imported)
        while left:
            free = [name for name in left if all(origin not in left for origin in left[name])]
            self.assertTrue(free, left)
            for name in free:
                del left[name]

    def ask_order(self, imported):
        order = ["errors.py"] + [f"{name}.py" for name in INTERFACE]
        for at, name in enumerate(order):
            reached = [name]
            for one in reached:
                reached.extend(origin for origin in imported[one] if origin not in reached)
            for origin in reached[1:]:
                if origin in order:
                    self.assertLess(order.index(origin), at, f"{name} imports {origin}")

    def test_all_imports_are_used(self):
        for name, tree in self.trees:
            used = [node.id for node in ast.walk(tree) if isinstance(node, ast.Name)]
            for node in tree.body:
                if isinstance(node, ast.ImportFrom):
                    for alias in node.names:
                        self.assertIn(alias.name, used, name)

    def test_nodes(self):
        barred = (
            ast.AsyncFunctionDef, ast.Global, ast.Nonlocal, ast.Set, ast.SetComp, ast.GeneratorExp, ast.Yield,
            ast.YieldFrom, ast.Await, ast.Match, ast.With, ast.Delete, ast.Div, ast.MatMult, ast.Starred,
            ast.NamedExpr, ast.AnnAssign, ast.Assert)
        for name, tree in self.trees:
            for node in ast.walk(tree):
                self.assertNotIsInstance(node, barred, f"{name}:{getattr(node, 'lineno', 0)}")
                if isinstance(node, (ast.FunctionDef, ast.ClassDef)):
                    for part in node.decorator_list:
                        self.assertTrue(isinstance(part, ast.Name) and part.id == "property", name)
                if isinstance(node, ast.BinOp) and isinstance(node.op, ast.Pow):
                    self.assertIsInstance(node.right, ast.Constant, name)
                if isinstance(node, ast.Constant):
                    self.assertNotIsInstance(node.value, (float, bytes, complex), name)
                    if isinstance(node.value, str):
                        self.assertNotIn("%", node.value, name)
                if isinstance(node, ast.Compare):
                    for sign, side in zip(node.ops, node.comparators):
                        if isinstance(sign, (ast.Is, ast.IsNot)):
                            self.assertTrue(isinstance(side, ast.Constant) and side.value in (None, True, False), name)
                if isinstance(node, ast.ExceptHandler):
                    self.assertIsInstance(node.type, ast.Name)

    def test_module_level(self):
        plain = (ast.Constant, ast.Tuple, ast.Dict, ast.Name, ast.UnaryOp, ast.BinOp)
        for name, tree in self.trees:
            bound = []
            for node in tree.body:
                if isinstance(node, ast.Expr):
                    self.assertIsInstance(node.value, ast.Constant, name)
                elif isinstance(node, ast.Assign):
                    self.assertEqual(len(node.targets), 1)
                    self.assertIsInstance(node.value, plain, f"{name}: {node.targets[0].id}")
                    bound.append(node.targets[0].id)
                elif isinstance(node, ast.ImportFrom):
                    bound.extend(alias.name for alias in node.names)
                else:
                    self.assertIsInstance(node, (ast.FunctionDef, ast.ClassDef), name)
                    bound.append(node.name)
            self.assertEqual(len(bound), len(set(bound)), name)

    def test_tables_are_only_read(self):
        tables = [
            node.targets[0].id for _, tree in self.trees for node in tree.body
            if isinstance(node, ast.Assign) and isinstance(node.value, (ast.Dict, ast.List))]
        for name, tree in self.trees:
            parents = {}
            for node in ast.walk(tree):
                for child in ast.iter_child_nodes(node):
                    parents[child] = node
            for node in ast.walk(tree):
                if isinstance(node, ast.Name) and node.id in tables and isinstance(node.ctx, ast.Load):
                    parent = parents[node]
                    if isinstance(parent, ast.Attribute):
                        self.assertIn(parent.attr, ("get", "items", "keys", "values"), f"{name}:{node.lineno}")
                    elif isinstance(parent, ast.Call):
                        self.assertIn(parent.func.id, ("list", "dict", "len", "sorted"), f"{name}:{node.lineno}")
                    else:
                        kinds = (ast.Subscript, ast.Compare, ast.For, ast.comprehension)
                        self.assertIsInstance(parent, kinds, f"{name}:{node.lineno}")

    def test_names(self):
        for name, tree in self.trees:
            tops = [node.name for node in tree.body if isinstance(node, ast.ClassDef)]
            for node in tree.body:
                if isinstance(node, ast.ImportFrom):
                    tops.extend(alias.name for alias in node.names)
            methods = [
                method for node in tree.body if isinstance(node, ast.ClassDef)
                for method in node.body if isinstance(method, ast.FunctionDef)]
            called = [method.name for method in methods]
            for bound in bound_names(tree):
                if bound not in called:
                    self.assertNotIn(bound, BARRED_NAMES + BUILTINS, name)
                if bound not in ("__init__", "__eq__", "__len__", "__repr__"):
                    self.assertRegex(bound, r"^(_|_?[A-Za-z][A-Za-z0-9_]*)$", name)
            for function in functions_in(tree):
                for node in ast.walk(function):
                    if isinstance(node, ast.Name) and isinstance(node.ctx, ast.Store):
                        self.assertNotIn(node.id, tops, name)
                    if isinstance(node, ast.Name) and isinstance(node.ctx, ast.Load):
                        self.assertNotEqual(node.id, "_", name)
                    if isinstance(node, ast.arg):
                        self.assertNotIn(node.arg, tops, name)

    def test_names_that_are_read(self):
        for name, tree in self.trees:
            known = set(bound_names(tree)) | set(BUILTINS) | set(OWN_ERRORS) | {"property", "type"}
            for node in tree.body:
                if isinstance(node, ast.ImportFrom):
                    known.update(alias.name for alias in node.names)
            for node in ast.walk(tree):
                if isinstance(node, ast.Name):
                    self.assertIn(node.id, known, f"{name}:{node.lineno}")

    def test_methods_and_attributes(self):
        methods, attributes = set(), set()
        for _, tree in self.trees:
            for node in ast.walk(tree):
                if isinstance(node, ast.ClassDef):
                    methods.update(part.name for part in node.body if isinstance(part, ast.FunctionDef))
                if isinstance(node, ast.Attribute) and isinstance(node.ctx, ast.Store):
                    attributes.add(node.attr)
        self.assertEqual([name for name in attributes if name in BARRED_ATTRIBUTES], [])
        for name, tree in self.trees:
            for node in ast.walk(tree):
                if isinstance(node, ast.Call) and isinstance(node.func, ast.Attribute):
                    known = node.func.attr in methods or node.func.attr in METHODS or node.func.attr == "__init__"
                    self.assertTrue(known, f"{name}:{node.lineno} {node.func.attr}")
                elif isinstance(node, ast.Attribute) and node.attr not in attributes:
                    known = node.attr in methods or node.attr in METHODS
                    self.assertTrue(known or node.attr in ("__init__", "__name__"), node.attr)
            for node in tree.body:
                if isinstance(node, ast.ClassDef):
                    own = {part.name for part in node.body if isinstance(part, ast.FunctionDef)}
                    told = {
                        part.attr for part in ast.walk(node)
                        if isinstance(part, ast.Attribute) and isinstance(part.ctx, ast.Store)
                        and isinstance(part.value, ast.Name) and part.value.id == "self"}
                    self.assertEqual(own & told, set(), f"{name}: {node.name}")

    def test_no_name_is_a_method_and_an_attribute(self):
        methods, attributes = set(), set()
        for _, tree in self.trees:
            for node in ast.walk(tree):
                if isinstance(node, ast.ClassDef):
                    methods.update(part.name for part in node.body if isinstance(part, ast.FunctionDef))
                if isinstance(node, ast.Attribute) and isinstance(node.ctx, ast.Store):
                    attributes.add(node.attr)
        self.assertEqual(methods & attributes, set())

    def test_words(self):
        for name, text in self.files:
            tree = ast.parse(text)
            docs = set()
            for node in ast.walk(tree):
                if isinstance(node, (ast.Module, ast.FunctionDef, ast.ClassDef)) and ast.get_docstring(node):
                    docs.add(id(node.body[0].value))
            # the name of a class may be asked
            named = {
                id(node.value.func) for node in ast.walk(tree)
                if isinstance(node, ast.Attribute) and node.attr == "__name__" and isinstance(node.value, ast.Call)}
            for node in ast.walk(tree):
                told = ""
                if isinstance(node, ast.Constant) and isinstance(node.value, str) and id(node) not in docs:
                    told = node.value
                elif isinstance(node, ast.Name) and id(node) not in named:
                    told = node.id
                elif isinstance(node, ast.Attribute):
                    told = node.attr
                for word in re.findall(r"\w+", told):
                    self.assertNotIn(word, BARRED_WORDS, name)
                self.assertFalse(told.endswith(("._", ".__")), name)

    def test_sets_and_iterators_stay_where_they_are_made(self):
        for name, tree in self.trees:
            parents = {}
            for node in ast.walk(tree):
                for child in ast.iter_child_nodes(node):
                    parents[child] = node
            for node in ast.walk(tree):
                if not isinstance(node, ast.Call) or not isinstance(node.func, ast.Name):
                    continue
                parent = parents[node]
                if node.func.id == "set":
                    self.assertIsInstance(parent, ast.Call, f"{name}:{node.lineno}")
                    self.assertIn(parent.func.id, ("len", "sorted"), f"{name}:{node.lineno}")
                if node.func.id in ("zip", "enumerate", "reversed"):
                    iterated = isinstance(parent, (ast.For, ast.comprehension))
                    self.assertTrue(iterated or isinstance(parent, ast.Call), f"{name}:{node.lineno}")

    def test_every_function_says_what_it_is_for(self):
        for name, tree in self.trees:
            if name != "__init__.py":
                self.assertIsNotNone(ast.get_docstring(tree), name)
            for node in tree.body:
                if isinstance(node, (ast.FunctionDef, ast.ClassDef)) and not node.name.startswith("_"):
                    self.assertIsNotNone(ast.get_docstring(node), f"{name}: {node.name}")


class InterfaceTest(unittest.TestCase):

    def test_functions_stand_in_their_files(self):
        for name, told in INTERFACE.items():
            with open(os.path.join(PACKAGE, f"{name}.py"), encoding="utf-8") as file:
                tree = ast.parse(file.read())
            found = [signature(node) for node in tree.body if isinstance(node, ast.FunctionDef)]
            for one in told:
                self.assertIn(one, found, name)

    def test_classes_define_their_methods_themselves(self):
        for place, told in CLASSES.items():
            name, made = place.split(".")
            with open(os.path.join(PACKAGE, f"{name}.py"), encoding="utf-8") as file:
                tree = ast.parse(file.read())
            classes = [node for node in tree.body if isinstance(node, ast.ClassDef) and node.name == made.split("(")[0]]
            self.assertEqual(len(classes), 1, place)
            found = [signature(node, 1) for node in classes[0].body if isinstance(node, ast.FunctionDef)]
            self.assertIn("__init__(" + made.split("(")[1], found, place)
            for one in told:
                self.assertIn(one, found, place)
