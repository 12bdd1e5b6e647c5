"""The package keeps to a part of Python that is narrower than what the project's language allows."""

import ast
import builtins
import inspect
import pathlib
import re
import unittest
from importlib import import_module

TOP = pathlib.Path(__file__).resolve().parent.parent
PACKAGE = TOP / "standfast"
FILES = sorted(PACKAGE.rglob("*.py"))
TREES = {file: ast.parse(file.read_text()) for file in FILES}

STATEMENTS = (
    ast.Module, ast.FunctionDef, ast.ClassDef, ast.Return, ast.Assign, ast.AugAssign, ast.For, ast.While, ast.If,
    ast.Raise, ast.Try, ast.ImportFrom, ast.Expr, ast.Pass, ast.Break, ast.Continue, ast.Delete, ast.ExceptHandler,
)
EXPRESSIONS = (
    ast.BoolOp, ast.BinOp, ast.UnaryOp, ast.Lambda, ast.IfExp, ast.Dict, ast.ListComp, ast.DictComp, ast.Compare,
    ast.Call, ast.JoinedStr, ast.FormattedValue, ast.Constant, ast.Attribute, ast.Subscript, ast.Starred, ast.Name,
    ast.List, ast.Tuple, ast.Slice, ast.comprehension, ast.arguments, ast.arg, ast.keyword, ast.alias,
)
SIGNS = (
    ast.Load, ast.Store, ast.Del, ast.And, ast.Or, ast.Not, ast.Add, ast.Sub, ast.Mult, ast.FloorDiv, ast.Mod, ast.Pow,
    ast.USub, ast.Eq, ast.NotEq, ast.Lt, ast.LtE, ast.Gt, ast.GtE, ast.Is, ast.IsNot, ast.In, ast.NotIn,
)
BUILTINS = (
    "len range enumerate zip min max sum abs sorted reversed int str bool list tuple dict isinstance ord any all "
    "divmod ValueError KeyError"
).split()
LIBRARY = {"math": {"gcd", "lcm", "isqrt"}, "itertools": {"product", "combinations"}}
METHODS = (
    "append clear copy count endswith extend find get index insert isdigit items join keys ljust lstrip partition pop "
    "remove replace reverse rfind rjust rpartition rsplit rstrip setdefault split startswith strip update values zfill "
    "removeprefix removesuffix isascii isdecimal"
).split()
ITERATED = ("zip", "enumerate", "reversed", "range")
BARRED_WORDS = (
    "typing typing_extensions enum Enum IntEnum StrEnum Flag IntFlag Generic Protocol ABC ABCMeta namedtuple "
    "NamedTuple TypedDict TYPE_CHECKING abstractmethod dataclass overload contextmanager type _wall _WallAttr"
).split()
BARRED_NAMES = "register mro elements open input law version_info with_traceback add_note format format_map".split()
BUILTIN_ATTRIBUTES = {name for kind in (str, int, list, dict, set, bytes) for name in dir(kind)}
INTERFACE = {
    "ratios": "ratio plus minus times over negative size sign less at_most greater_one lesser_one total",
    "written": "write_ratio read_ratio read_number write_number",
    "roots": "root_below root_above",
    "linear.equations": "solve loose_values dot",
    "programs.conditions": "most least just meets",
    "programs.projection": "can_be_met refutation",
    "programs.nearest": "nearest greatest",
    "frames.model": "Section Joint Member Case Group Asked Frame find",
    "frames.reading": "read_frame fault_of",
    "frames.writing": "write_frame",
    "frames.edits": "edit_frame edit_fault",
    "structure.model": "Load Side Structure add_loads times_load",
    "structure.rows": "make_row row_at row_dot add_rows times_row",
}
WITH_ARGUMENTS = """
frames.problems: problems(frame)
structure.build: build(frame)
structure.build: asked_rows(frame)
structure.balance: forces_on(structure, forces)
structure.balance: is_balanced(structure, forces, load)
structure.balance: strains_by(structure, movements)
elastic.pairs: is_idle(structure, place)
elastic.pairs: pair_of(structure, load)
elastic.pairs: loose_movements(structure)
elastic.enclosing: own_strains(structure, pair, load)
elastic.enclosing: apart(structure, pair, load)
elastic.enclosing: reach(structure, component)
elastic.enclosing: rise(structure, component, sign, pair, load)
papers.losses: left(structure, lost, blow)
papers.losses: left_bare(structure, lost)
papers.losses: without(structure, lost, groups)
papers.losses: loss_sets(losable, lose)
papers.yielding: YieldPaper(base, pairs, margin)
papers.yielding: pair_at(pairs, group, index)
papers.yielding: filled(structure, pair)
papers.yielding: yields_end(structure, paper)
papers.yielding: start(structure, paper)
papers.yielding: yield_of(structure, paper)
papers.yielding: is_kept_away(structure, paper, side, amount)
papers.walk: leap(structure, first, second)
papers.walk: walk(structure, losable, lose, blow, papers)
papers.movements: unit_load(row)
papers.movements: bounds_of(structure, paper, unit, row, amount)
papers.falls: is_choice(structure, choice)
papers.falls: choice_load(structure, choice)
papers.falls: work(load, movement)
papers.falls: falls(structure, choice, movement, amounts)
papers.turns: gain_and_lever(structure, yields, movement, pairs)
papers.turns: turns(structure, yields, movement, pairs)
papers.kinds: SetPaper(lost, paper, units)
papers.kinds: Bounds(sets)
papers.kinds: Borne(forces)
papers.kinds: Turns(lost, yields, movement, pairs)
papers.kinds: Falls(lost, choice, movement, amounts)
papers.codes: write_paper(paper)
papers.codes: read_paper(text)
papers.ground: Site(frame)
papers.ground: Site.sets(self)
papers.ground: Site.behind(self, lost)
papers.ground: Site.bare(self, lost)
papers.ground: choices(structure)
papers.judge: accepts(site, paper)
papers.judge: verdict_of(site, paper)
finding.bearing: sure_limits(structure)
finding.bearing: most_limits(structure)
finding.bearing: bearing_forces(structure, choice, limits)
finding.bearing: found_fall(structure)
finding.bearing: raising(structure, limits)
finding.yields: all_pairs(structure)
finding.yields: found_yield_paper(structure)
finding.yields: found_turns(structure)
finding.verdict: found_bounds(site)
finding.verdict: found_borne(site)
finding.verdict: found_site_turns(site)
finding.verdict: found_site_falls(site)
finding.verdict: if_accepted(site, paper)
finding.verdict: verdict(site)
trials.state: Truth(factors, strengths, errors)
trials.state: fits(structure, truth)
trials.state: middle_truth(structure)
trials.forces: next_forces(structure, factors, limits, slack, load)
trials.forces: next_movements(structure, factors, limits, slack, forces)
trials.trial: Trial(structure, truth)
trials.trial: Trial.step(self, shares)
trials.trial: Trial.lose(self, member)
trials.trial: Trial.forces(self)
trials.trial: Trial.movements(self)
trials.trial: Trial.yielded(self)
trials.trial: Trial.broken(self)
trials.trial: Trial.lost(self)
trials.trial: Trial.moments(self)
trials.trial: Trial.has_ended(self)
trials.trial: Trial.fork(self)
lightest.lists: fit(frame, lists)
lightest.lists: with_choice(frame, lists, choice)
lightest.lists: weight_of(frame)
lightest.lists: whole_box(lists)
lightest.lists: least_weight(frame, lists, box)
lightest.boxes: fall_holds(frame, lists, box, lost, choice, movement)
lightest.boxes: found_box_fall(frame, lists, box)
lightest.trees: is_right(frame, lists, box, limit, tree)
lightest.trees: least_of(frame, lists, box, limit, tree)
lightest.trees: write_tree(tree)
lightest.trees: read_tree(text)
lightest.search: lightest(frame, lists, boxes)
measures.narrowing: narrowed(structure, load, low, high)
house: House(text)
house: House.text(self)
house: House.edit(self, text)
house: House.undo(self)
house: House.redo(self)
house: House.verdict(self)
house: House.raising(self, names)
house: House.lightest(self, lists, boxes)
house: House.trial(self, truth)
court: judge(frame_text, paper_text)
court: judge_lightest(frame_text, lists, names, paper_text, tree_text)
"""


def nodes(kind):
    """All nodes of a kind, each with its file and line."""
    for file, tree in TREES.items():
        for node in ast.walk(tree):
            if isinstance(node, kind):
                yield f"{file.relative_to(TOP)}:{getattr(node, 'lineno', 0)}", node


def module_of(file):
    return ".".join(file.relative_to(TOP).with_suffix("").parts).removesuffix(".__init__")


def defined_names(tree):
    found = {node.name for node in tree.body if isinstance(node, (ast.FunctionDef, ast.ClassDef))}
    return found | {node.targets[0].id for node in tree.body if isinstance(node, ast.Assign)}


def local_names(function):
    """Parameters and what is assigned in a function."""
    found = [arg.arg for arg in (*function.args.posonlyargs, *function.args.args, *function.args.kwonlyargs)]
    for node in ast.walk(function):
        if isinstance(node, ast.Name) and isinstance(node.ctx, ast.Store):
            found.append(node.id)
        if isinstance(node, ast.arg):
            found.append(node.arg)
        if isinstance(node, ast.ExceptHandler) and node.name:
            found.append(node.name)
    return set(found)


OWN_CLASSES = {node.name: node for _, node in nodes(ast.ClassDef)}
OWN_METHODS = {method.name for node in OWN_CLASSES.values() for method in node.body
               if isinstance(method, ast.FunctionDef)}


class FilesAndLines(unittest.TestCase):
    def test_files_and_folders(self):
        for path in PACKAGE.rglob("*"):
            if "__pycache__" in path.parts:
                continue
            with self.subTest(str(path)):
                if path.is_dir():
                    self.assertTrue((path / "__init__.py").exists())
                    self.assertFalse(path.with_suffix(".py").exists())
                self.assertTrue(path.is_dir() or path.suffix == ".py")
                self.assertRegex(path.stem, r"^([a-z][a-z0-9_]*|__init__)$")
                self.assertFalse(path.stem.startswith(("law", "test")) or path.stem == "site")
                self.assertNotIn(path.stem, dir(builtins))
        self.assertLessEqual(len(FILES), 100)

    def test_characters_and_lengths(self):
        for file in FILES:
            text = file.read_text()
            with self.subTest(str(file)):
                self.assertTrue(all(letter == "\n" or " " <= letter <= "~" for letter in text))
                self.assertTrue(text.endswith("\n"))
                self.assertLessEqual(len(text.splitlines()), 399)
                self.assertLessEqual(max(len(line) for line in text.splitlines()), 120)
        for place, node in nodes(ast.FunctionDef):
            self.assertLessEqual(node.end_lineno - node.lineno + 1, 40, place)

    def test_docstrings(self):
        for place, node in nodes((ast.Module, ast.ClassDef, ast.FunctionDef)):
            if getattr(node, "name", "") != "__init__":
                self.assertIsNotNone(ast.get_docstring(node), (place, getattr(node, "name", "")))

    def test_barred_words(self):
        for file in FILES:
            for word in BARRED_WORDS:
                self.assertIsNone(re.search(rf"\b{word}\b", file.read_text()), (str(file), word))


class Modules(unittest.TestCase):
    def test_imports(self):
        for place, node in nodes(ast.ImportFrom):
            names = {alias.name for alias in node.names}
            self.assertEqual((node.level, [alias.asname for alias in node.names]), (0, [None] * len(node.names)), place)
            if node.module in LIBRARY:
                self.assertLessEqual(names, LIBRARY[node.module], place)
            else:
                self.assertTrue(node.module.startswith("standfast."), place)
                file = TOP / (node.module.replace(".", "/") + ".py")
                self.assertLessEqual(names, defined_names(TREES[file]), place)

    def test_no_circles(self):
        after = {module_of(file): [node.module for node in tree.body if isinstance(node, ast.ImportFrom)
                                   and node.module not in LIBRARY] for file, tree in TREES.items()}
        left = dict(after)
        while left:
            free = [name for name in left if not any(other in left for other in left[name])]
            self.assertTrue(free, sorted(left))
            left = {name: left[name] for name in left if name not in free}

    def test_all_imports_are_used(self):
        for file, tree in TREES.items():
            used = {node.id for node in ast.walk(tree) if isinstance(node, ast.Name)}
            for node in tree.body:
                if isinstance(node, ast.ImportFrom):
                    self.assertLessEqual({alias.name for alias in node.names}, used, str(file))

    def test_module_level(self):
        for file, tree in TREES.items():
            names = []
            for node in tree.body:
                self.assertIsInstance(node, (ast.Expr, ast.ImportFrom, ast.FunctionDef, ast.ClassDef, ast.Assign))
                if isinstance(node, ast.Expr):
                    self.assertIsInstance(node.value, ast.Constant)
                if isinstance(node, ast.Assign):
                    self.assertIsInstance(node.targets[0], ast.Name)
                    self.assertEqual(len(node.targets), 1)
                    for part in ast.walk(node.value):
                        self.assertNotIsInstance(part, (ast.Call, ast.ListComp, ast.DictComp, ast.BinOp), str(file))
                names += [alias.name for alias in getattr(node, "names", [])]
            names += sorted(defined_names(tree))
            self.assertEqual(len(names), len(set(names)), str(file))

    def test_the_interface_stands_in_its_files(self):
        for name, words in INTERFACE.items():
            module = import_module("standfast." + name)
            for word in words.split():
                with self.subTest(f"{name}.{word}"):
                    self.assertEqual(getattr(module, word).__module__, module.__name__)

    def test_the_interface_has_its_arguments(self):
        for line in WITH_ARGUMENTS.strip().splitlines():
            name, path, arguments = re.fullmatch(r"(.*): ([\w.]*)\((.*)\)", line).groups()
            with self.subTest(line):
                found = module = import_module("standfast." + name)
                for word in path.split("."):
                    found = vars(found)[word]
                self.assertEqual(found.__module__, module.__name__)
                self.assertEqual(list(inspect.signature(found).parameters), arguments.split(", "))


class Code(unittest.TestCase):
    def test_kinds_of_nodes(self):
        for place, node in nodes(ast.AST):
            self.assertIsInstance(node, STATEMENTS + EXPRESSIONS + SIGNS, place)

    def test_functions_and_classes(self):
        for place, node in nodes((ast.FunctionDef, ast.ClassDef)):
            self.assertEqual(node.decorator_list, [], place)
        for place, node in nodes(ast.arguments):
            self.assertEqual((node.vararg, node.kwarg, node.kwonlyargs, node.posonlyargs), (None, None, [], []), place)
        for place, node in nodes(ast.ClassDef):
            self.assertLessEqual(len(node.bases), 1, place)
            methods = [part.name for part in node.body if isinstance(part, ast.FunctionDef)]
            self.assertEqual([name for name in methods if name.startswith("__") and name != "__init__"], [], place)
            self.assertEqual(len(methods), len(set(methods)), place)
            for part in node.body:
                self.assertIsInstance(part, (ast.Expr, ast.FunctionDef), place)
        for place, node in nodes(ast.FunctionDef):
            nested = [part for part in ast.walk(node) if isinstance(part, (ast.FunctionDef, ast.ClassDef))]
            self.assertEqual(nested, [node], place)

    def test_names(self):
        for file, tree in TREES.items():
            taken = {node.name for node in ast.walk(tree) if isinstance(node, ast.ClassDef)}
            taken |= {alias.name for node in tree.body if isinstance(node, ast.ImportFrom) for alias in node.names}
            for node in ast.walk(tree):
                if isinstance(node, ast.FunctionDef):
                    for name in local_names(node):
                        self.assertNotIn(name, taken | set(dir(builtins)) | set(BARRED_NAMES), f"{file}:{node.lineno}")
                        self.assertRegex(name, r"^(_|[a-z][a-z0-9_]*)$")
            for name in defined_names(tree):
                self.assertNotIn(name, set(dir(builtins)) | set(BARRED_NAMES), str(file))
                self.assertRegex(name, r"^[A-Za-z][A-Za-z0-9_]*$")

    def test_no_names_but_known_ones(self):
        for file, tree in TREES.items():
            known = defined_names(tree) | set(BUILTINS)
            known |= {alias.name for node in tree.body if isinstance(node, ast.ImportFrom) for alias in node.names}
            for node in ast.walk(tree):
                if isinstance(node, ast.FunctionDef):
                    known |= local_names(node)
            for node in ast.walk(tree):
                if isinstance(node, ast.Name) and isinstance(node.ctx, ast.Load):
                    self.assertIn(node.id, known, f"{file}:{node.lineno}")
                    self.assertNotEqual(node.id, "_")

    def test_attributes_and_methods(self):
        assigned = set()
        for place, node in nodes(ast.Attribute):
            if isinstance(node.ctx, ast.Store):
                assigned.add(node.attr)
                self.assertIsInstance(node.value, ast.Name, place)
                self.assertNotIn(node.attr, BUILTIN_ATTRIBUTES, place)
        for node in OWN_CLASSES.values():
            own = {part.attr for part in ast.walk(node) if isinstance(part, ast.Attribute)
                   and isinstance(part.ctx, ast.Store)}
            self.assertEqual(own & {part.name for part in node.body if isinstance(part, ast.FunctionDef)}, set())
        self.assertEqual((OWN_METHODS - {"__init__"}) & BUILTIN_ATTRIBUTES, set())
        called = {id(node.func) for _, node in nodes(ast.Call)}
        for place, node in nodes(ast.Attribute):
            if id(node) in called:
                self.assertIn(node.attr, OWN_METHODS | set(METHODS), place)
            else:
                self.assertIn(node.attr, assigned, place)

    def test_numbers_and_strings(self):
        for place, node in nodes(ast.Constant):
            self.assertIsInstance(node.value, (int, str, bool, type(None)), place)
            self.assertNotIn("%", str(node.value), place)
        for place, node in nodes(ast.BinOp):
            if isinstance(node.op, ast.Pow):
                self.assertIsInstance(node.right, ast.Constant, place)
                self.assertIn(node.right.value, range(65), place)
        for place, node in nodes(ast.FormattedValue):
            self.assertEqual((node.conversion, node.format_spec), (-1, None), place)
            for part in ast.walk(node.value):
                self.assertNotIsInstance(part, ast.Constant, place)

    def test_stars_and_keywords_in_calls(self):
        for place, node in nodes(ast.Call):
            self.assertFalse(any(isinstance(arg, ast.Starred) for arg in node.args), place)
            for keyword in node.keywords:
                self.assertIsNotNone(keyword.arg, place)
                self.assertIn((node.func.id, keyword.arg), (("enumerate", "start"), ("min", "key"), ("min", "default"),
                                                            ("max", "key"), ("max", "default"), ("sorted", "key"),
                                                            ("sorted", "reverse")), place)

    def test_iterated_at_once(self):
        right = set()
        for _, node in nodes((ast.For, ast.comprehension)):
            right.add(id(node.iter))
        for _, node in nodes(ast.Call):
            taker = getattr(node.func, "id", getattr(node.func, "attr", ""))
            if taker in ("list", "tuple", "dict", "sorted", "sum", "any", "all", "enumerate", "zip", "join", "reversed"):
                right.update(id(arg) for arg in node.args)
        for place, node in nodes(ast.Call):
            name = node.func.attr if isinstance(node.func, ast.Attribute) else getattr(node.func, "id", "")
            if name in ITERATED or name in ("items", "keys", "values"):
                self.assertIn(id(node), right, place)

    def test_errors(self):
        for place, node in nodes(ast.Try):
            self.assertEqual((node.finalbody, len(node.handlers)), ([], 1), place)
            for handler in node.handlers:
                self.assertIn(handler.type.id, {"KeyError", "ZeroDivisionError"} | set(OWN_CLASSES), place)
        for place, node in nodes(ast.Raise):
            self.assertIsInstance(node.exc, ast.Call, place)
            self.assertIn(node.exc.func.id, OWN_CLASSES, place)

    def test_is_stands_beside_constants(self):
        for place, node in nodes(ast.Compare):
            for sign, other in zip(node.ops, node.comparators):
                if isinstance(sign, (ast.Is, ast.IsNot)):
                    self.assertTrue(isinstance(other, ast.Constant) and other.value in (None, True, False), place)

    def test_each_own_function_gets_what_it_takes(self):
        for file, tree in TREES.items():
            module = import_module(module_of(file))
            for node in ast.walk(tree):
                if isinstance(node, ast.Call) and isinstance(node.func, ast.Name):
                    told = getattr(module, node.func.id, None)
                    if inspect.isclass(told) and "__init__" not in vars(told):
                        self.assertEqual(node.keywords, [])
                    elif told is not None:
                        inspect.signature(told).bind(*node.args)
