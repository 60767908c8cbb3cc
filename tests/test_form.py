"""The form of the package: the rules of the language that a program can see."""

import ast
import builtins
import os
import unittest

ROOT = os.path.dirname(os.path.dirname(os.path.abspath(__file__)))
FOLDER = os.path.join(ROOT, "scaleborn")

LIBRARY = {"math": {"gcd", "lcm", "isqrt", "comb", "perm", "factorial"}}
BUILTINS = set(
    "len range enumerate zip min max sum abs sorted reversed int str bool list tuple dict set isinstance ord repr "
    "any all divmod iter super type staticmethod classmethod ValueError".split())
METHODS = set(
    "append clear copy count endswith extend find get index insert isalnum isalpha isdigit islower isspace isupper "
    "items join keys ljust lower lstrip partition pop remove replace reverse rfind rjust rpartition rsplit rstrip "
    "setdefault split splitlines startswith strip update upper values zfill bit_length isascii removeprefix "
    "removesuffix".split())
CHANGES = {"append", "extend", "insert", "pop", "remove", "reverse", "clear", "update", "setdefault", "sort"}
UNDERSCORED = set(
    "__init__ __eq__ __repr__ __str__ __len__ __iter__ __add__ __sub__ __mul__ __and__ __or__ __neg__ __abs__ "
    "__invert__ __bool__ __contains__".split())
UNUSED_WORDS = set(
    "register mro elements open input law version_info with_traceback add_note attrgetter breakpoint builtins compile "
    "copyright credits delattr dir eval exec exit gc globals help id importlib license locals methodcaller os quit "
    "vars sys typing enum Enum Flag Generic Protocol ABC namedtuple overload dataclass contextmanager".split())
STATEMENTS = (
    ast.Assign, ast.AugAssign, ast.If, ast.While, ast.For, ast.Return, ast.Break, ast.Continue, ast.Pass, ast.Raise,
    ast.Expr, ast.FunctionDef, ast.ClassDef, ast.ImportFrom, ast.Try, ast.Delete)
EXPRESSIONS = (
    ast.BoolOp, ast.BinOp, ast.UnaryOp, ast.IfExp, ast.Dict, ast.ListComp, ast.DictComp, ast.Compare, ast.Call,
    ast.JoinedStr, ast.FormattedValue, ast.Constant, ast.Attribute, ast.Subscript, ast.Starred, ast.Name, ast.List,
    ast.Tuple, ast.Slice, ast.Yield)

INTERFACE = {
    "errors": {name: [] for name in (
        "ScaleError BadRatio BadBalance BadComparison BadPair BadSort BadScale BadBook BadSaying BadHands BadOrder "
        "BadNumber BadPaper BadLive BadDesk Missing NoThing NoName NoPair Twice Unlike Impossible NotAbove NotCarried "
        "Hanging Nothing TooMany BadText BadLine").split()},
    "checks": {"is_integer": 1, "is_within": 3, "is_name": 1, "are_names": 1},
    "ratios": {
        "Ratio": "__init__ __add__ __sub__ __mul__ compared is_below over __neg__ __abs__ __bool__ __eq__ __str__ "
                 "__repr__ read of".split(),
        "is_ratio": 1, "added": 0},
    "papers": {"fixed": 1, "Paper": ["__init__", "__eq__", "__bool__"], "Denial": ["__init__", "__eq__", "__bool__"]},
    "balances": {
        "Balance": "__init__ number_of gains losses least __add__ __sub__ __neg__ __mul__ renamed of __eq__ __str__ "
                   "read".split(),
        "mean_of": 1},
    "comparisons": {
        "Comparison": "__init__ contraries __eq__ __str__ read".split(),
        "Pair": "__init__ as_rows __eq__ __str__ read".split(), "compared": 3},
    "sorts": {"Sort": "__init__ __len__ __iter__ __contains__ __add__ only __eq__ __str__ read".split()},
    "ready_sorts": {"order_of": 2, "gaps_of": 1, "heaps_of": 1, "copies_of": 3, "cells_of": 2},
    "scales": {
        "Scale": "__init__ worth outcome keeps outcomes only __mul__ __add__ __eq__ __str__ read".split()},
    "books": {
        "Book": "__init__ __len__ keeps with_rows without joined with_things above_nothing renamed __eq__ __str__ "
                "read".split()},
    "rounds": {"Fits": ["__init__"], "Round": ["__init__"], "fit": 1, "is_possible": 1},
    "hulls": {
        "alikes": 1, "swept": 2, "is_held_alike": 2, "are_one": 3, "Opened": ["__init__"], "Shut": ["__init__"],
        "open_scales": 2, "is_open": 2},
    "check_rounds": {"shows_fit": 2, "shows_open": 3},
    "sayings": {
        "Saying": "__init__ __len__ __eq__ __str__ read holds truth_by renamed __and__ __or__ __invert__".split(),
        "yes": 0, "no": 0, "of_comparison": 1, "both_of": 1, "either_of": 1, "at_least": 2, "exactly": 2},
    "ready_sayings": {
        "says_more": 3, "means": 3, "middle_is": 3, "greatest_is": 2, "sole_greatest": 2, "rank_is": 3,
        "lies_between": 3, "more_even": 4, "is_times": 4},
    "charts": {
        "Chart": "__init__ __len__ number_of has scale_at list_of outcomes_of cut agreeing truths".split(), "charted": 2},
    "check_charts": {"shows_chart": 3},
    "verdicts": {
        "Always": ["__init__"], "Never": ["__init__"], "Hangs": ["__init__"], "judged": 2, "judged_by": 2, "truth_in": 2,
        "follows": 3, "are_same": 3, "needed_rows": 2},
    "struck": {"worked_out": 1, "put_to": 3, "struck": 2},
    "check_verdicts": {"shows_judged": 3, "shows_follows": 4},
    "orders": {"weak_orders": 1, "order_at": 1, "order_outcomes": 1, "order_rows": 2},
    "order_sums": {"class_sums": 2, "sure_by_order": 3},
    "heaps": {"Matching": ["__init__"], "Short": ["__init__"], "heap_matched": 3, "shows_matched": 4},
    "fractions": {"fractions_to": 1, "neighbours_of": 2, "place_at": 4, "places_in": 4},
    "wordings": {"Wordings": ["__init__"], "wordings": 3, "wordings_in": 3},
    "carried": {"Carried": ["__init__"], "Divided": ["__init__"], "carried_by": 3},
    "told_wordings": {"wording_of": 3},
    "check_wordings": {"shows_wordings": 4, "shows_carried": 4},
    "facets": {"Facet": ["__init__"], "live_pairs": 2, "facets": 2},
    "whole": {"Whole": ["__init__"], "Ragged": ["__init__"], "whole_in": 2},
    "coarsest": {"Coarsest": ["__init__"], "TwoLeast": ["__init__"], "least_sort": 3, "coarsest": 2},
    "check_facets": {"shows_facet": 3, "shows_whole": 3, "shows_coarsest": 3},
    "said": {"SaidBy": ["__init__"], "Fewest": ["__init__"], "said_by": 3, "said_saying": 3, "fewest_said": 3},
    "finer": {"Finer": ["__init__"], "Coarser": ["__init__"], "finer_than": 3, "sorts_word": 3},
    "check_said": {"shows_said": 4, "shows_fewest": 4, "shows_finer": 4},
    "hands": {"Clash": ["__init__"], "Together": ["__init__"], "clash": 2, "settled": 3},
    "between": {"Between": ["__init__"], "between": 4},
    "chains": {"Chain": ["__init__"], "chain_of": 1, "clashing_hands": 1},
    "check_between": {"shows_clash": 3, "shows_chain": 2, "shows_between": 5},
    "spans": {"Span": ["__init__"], "span": 3, "ratio_at": 3},
    "pins": {"pinned": 4, "simplest_between": 2, "copies_to_part": 2},
    "check_spans": {"shows_span": 4},
    "asks": {"Asking": ["__init__"], "asked": 3, "settled_at": 2},
    "mends": {"Mended": ["__init__"], "mended": 1},
    "check_asks": {"shows_asked": 4, "shows_mended": 2},
    "live": {"Live": "__init__ tell take back again watch unwatch saying_of twin __eq__".split()},
    "desk": {"Desk": "__init__ tell run back told_lines kept_names value_of __len__ __contains__ __eq__".split()},
}


def load():
    """The name, the text and the tree of each file."""
    files = {}
    for name in sorted(os.listdir(FOLDER)):
        if name != "__pycache__":
            with open(os.path.join(FOLDER, name), encoding="utf-8", newline="") as file:
                text = file.read()
            files[name] = (text, ast.parse(text))
    return files


FILES = load()


def functions_of(tree):
    return [node for node in ast.walk(tree) if isinstance(node, ast.FunctionDef)]


def classes_of(tree):
    return [node for node in ast.walk(tree) if isinstance(node, ast.ClassDef)]


def methods_of(found):
    return [node for node in found.body if isinstance(node, ast.FunctionDef)]


def all_classes():
    return {found.name: found for _, tree in FILES.values() for found in classes_of(tree)}


def stored_names(function):
    """Parameters and local variables."""
    spec = function.args
    names = [part.arg for part in [*spec.args, *spec.kwonlyargs]]
    names.extend([part.arg for part in (spec.vararg, spec.kwarg) if part])
    names.extend([node.id for node in ast.walk(function)
                  if isinstance(node, ast.Name) and isinstance(node.ctx, ast.Store)])
    return names


def imports_of(tree):
    return [node for node in ast.walk(tree) if isinstance(node, (ast.Import, ast.ImportFrom))]


class Files(unittest.TestCase):
    def test_names_and_characters(self):
        for name, (text, _) in FILES.items():
            with self.subTest(name):
                self.assertRegex(name, r"^[a-z_][a-z0-9_]*\.py$")
                self.assertTrue(all(" " <= sign <= "~" or sign == "\n" for sign in text))
                lines = text.split("\n")
                self.assertLessEqual(len(lines) - 1, 399)
                self.assertLessEqual(max(len(line) for line in lines), 120)
                self.assertTrue(text.endswith("\n"))

    def test_sizes(self):
        for name, (_, tree) in FILES.items():
            for function in functions_of(tree):
                self.assertLessEqual(function.end_lineno - function.lineno + 1, 40, (name, function.name))

    def test_imports(self):
        tops = {}
        for name, (_, tree) in FILES.items():
            tops["scaleborn." + name[:-3]] = {node.name for node in tree.body if hasattr(node, "name")} | {
                target.id for node in tree.body if isinstance(node, ast.Assign) for target in node.targets}
        for name, (_, tree) in FILES.items():
            body = [node for node in tree.body if not isinstance(node, ast.Expr)]
            inside = imports_of(tree)
            self.assertEqual(body[:len(inside)], inside, name)
            for node in inside:
                self.assertIsInstance(node, ast.ImportFrom)
                self.assertEqual(node.level, 0)
                told = LIBRARY.get(node.module, tops.get(node.module, set()))
                for alias in node.names:
                    self.assertIn(alias.name, told, (name, node.module))
                    self.assertIsNone(alias.asname)
                    used = [part for part in ast.walk(tree) if isinstance(part, ast.Name) and part.id == alias.name]
                    self.assertTrue(used, (name, alias.name, "is not used"))

    def test_no_two_files_import_from_each_other(self):
        graph = {"scaleborn." + name[:-3]: [node.module for node in imports_of(tree)]
                 for name, (_, tree) in FILES.items()}
        done = {}

        def visit(name, above):
            self.assertNotIn(name, above)
            if name in graph and name not in done:
                for other in graph[name]:
                    visit(other, [*above, name])
                done[name] = True

        for name in graph:
            visit(name, [])

    def test_interface_stands_where_it_is_told(self):
        for module, names in INTERFACE.items():
            tree = FILES[module + ".py"][1]
            tops = {node.name: node for node in tree.body if isinstance(node, (ast.FunctionDef, ast.ClassDef))}
            for name, told in names.items():
                self.assertIn(name, tops)
                if isinstance(told, int):
                    self.assertEqual(len(tops[name].args.args), told, name)
                else:
                    methods = [method.name for method in methods_of(tops[name])]
                    self.assertLessEqual(set(told), set(methods), name)
                    self.assertEqual(len(set(methods)), len(methods))


class Names(unittest.TestCase):
    def test_no_name_means_two_things(self):
        for name, (_, tree) in FILES.items():
            taken = [alias.name for node in imports_of(tree) for alias in node.names]
            taken.extend([found.name for found in classes_of(tree)])
            tops = [node.name for node in tree.body if hasattr(node, "name")] + taken[:]
            tops.extend([target.id for node in tree.body if isinstance(node, ast.Assign) for target in node.targets])
            for function in functions_of(tree):
                for stored in stored_names(function):
                    self.assertNotIn(stored, taken, (name, function.name))
                    self.assertFalse(hasattr(builtins, stored), (name, stored))
            for top in tops:
                self.assertFalse(hasattr(builtins, top), (name, top))
            plain = [top for top in tops if top not in [found.name for found in classes_of(tree)]]
            self.assertEqual(len(set(plain)), len(plain), name)

    def test_plain_names(self):
        for name, (_, tree) in FILES.items():
            for node in ast.walk(tree):
                found = [getattr(node, key) for key in ("name", "id", "attr", "arg") if hasattr(node, key)]
                for word in found:
                    if isinstance(word, str):
                        self.assertNotIn(word, UNUSED_WORDS, name)
                        if word.startswith("__"):
                            self.assertIn(word, UNDERSCORED, name)
                        self.assertNotRegex(word, r"^(_wall|_pe_|_dcw_|_enum_|_cm_|_twin_re_|_lay_|_law_|_stub_|_sre)")

    def test_no_method_is_an_attribute_in_its_family(self):
        classes = all_classes()
        for found in classes.values():
            family, names = [found], [base.id for base in found.bases]
            while names:
                base = names.pop()
                if base in classes:
                    family.append(classes[base])
                    names.extend([other.id for other in classes[base].bases])
            methods = {method.name for one in family for method in methods_of(one)}
            attributes = {node.attr for one in family for node in ast.walk(one)
                          if isinstance(node, ast.Attribute) and isinstance(node.ctx, ast.Store)}
            self.assertFalse(methods & attributes, found.name)

    def test_attributes_that_are_read_are_assigned(self):
        classes = all_classes()
        methods = {method.name for found in classes.values() for method in methods_of(found)}
        values = {target.id for found in classes.values() for node in found.body if isinstance(node, ast.Assign)
                  for target in node.targets}
        nodes = [node for _, tree in FILES.values() for node in ast.walk(tree) if isinstance(node, ast.Attribute)]
        stored = {node.attr for node in nodes if isinstance(node.ctx, ast.Store)}
        self.assertFalse(stored & values)
        for node in nodes:
            self.assertIn(node.attr, stored | methods | METHODS | values)
        self.assertFalse(stored & (METHODS - {"count", "index", "find", "get", "join", "copy"}))


class Signs(unittest.TestCase):
    def test_statements_and_expressions(self):
        for name, (_, tree) in FILES.items():
            for node in ast.walk(tree):
                if isinstance(node, ast.stmt):
                    self.assertIsInstance(node, STATEMENTS, name)
                if isinstance(node, ast.expr) and not isinstance(node, ast.SetComp):
                    self.assertIsInstance(node, EXPRESSIONS, (name, node.lineno))
                self.assertNotIsInstance(node, (ast.Div, ast.MatMult, ast.Pow))
                if isinstance(node, ast.FunctionDef):
                    self.assertIsNone(node.returns)
                    decorators = [part.id for part in node.decorator_list]
                    self.assertIn(decorators, ([], ["classmethod"], ["staticmethod"]))
                if isinstance(node, ast.arg):
                    self.assertIsNone(node.annotation)
                if isinstance(node, ast.AugAssign):
                    self.assertIsInstance(node.value, ast.Constant, (name, node.lineno))

    def test_own_errors_alone_are_caught(self):
        classes = all_classes()
        for name, (_, tree) in FILES.items():
            for node in ast.walk(tree):
                if isinstance(node, ast.Try):
                    self.assertFalse(node.finalbody or node.orelse, name)
                    for handler in node.handlers:
                        self.assertIn(handler.type.id, classes, (name, handler.lineno))
                        self.assertIsInstance(handler.body[-1], ast.Raise)
                if isinstance(node, ast.Delete):
                    for target in node.targets:
                        self.assertIsInstance(target, ast.Subscript, (name, node.lineno))

    def test_what_is_thrown_away_is_not_read(self):
        for name, (_, tree) in FILES.items():
            for node in ast.walk(tree):
                if isinstance(node, ast.Name) and node.id == "_":
                    self.assertIsInstance(node.ctx, ast.Store, (name, node.lineno))
                if isinstance(node, ast.Tuple) and isinstance(node.ctx, ast.Store):
                    self.assertLess([getattr(part, "id", "") for part in node.elts].count("_"), 2, (name, node.lineno))

    def test_constants(self):
        for name, (_, tree) in FILES.items():
            docs = [ast.get_docstring(node, clean=False) for node in ast.walk(tree)
                    if isinstance(node, (ast.Module, ast.ClassDef, ast.FunctionDef))]
            for node in ast.walk(tree):
                if isinstance(node, ast.Constant):
                    self.assertIsInstance(node.value, (int, str, type(None)), name)
                    if isinstance(node.value, str) and node.value not in docs:
                        self.assertNotIn("%", node.value)
                        self.assertNotIn("\\", node.value)
                        self.assertFalse(set(node.value.split()) & UNUSED_WORDS, name)

    def test_is(self):
        for name, (_, tree) in FILES.items():
            for node in ast.walk(tree):
                if isinstance(node, ast.Compare):
                    for sign, right in zip(node.ops, node.comparators):
                        if isinstance(sign, (ast.Is, ast.IsNot)):
                            is_class = isinstance(node.left, ast.Call) and getattr(node.left.func, "id", "") == "type"
                            is_none = isinstance(right, ast.Constant) and right.value is None
                            self.assertTrue(is_class or is_none, (name, node.lineno))

    def test_calls(self):
        classes = all_classes()
        own = {method.name for found in classes.values() for method in methods_of(found)}
        for name, (_, tree) in FILES.items():
            known = {alias.name for node in imports_of(tree) for alias in node.names}
            known |= {node.name for node in tree.body if hasattr(node, "name")} | BUILTINS | {"cls"}
            for node in ast.walk(tree):
                if isinstance(node, ast.Call) and isinstance(node.func, ast.Name):
                    self.assertIn(node.func.id, known, (name, node.lineno))
                    if node.func.id in LIBRARY["math"]:
                        self.assertFalse(node.keywords or [x for x in node.args if isinstance(x, ast.Starred)])
                elif isinstance(node, ast.Call):
                    self.assertIsInstance(node.func, ast.Attribute)
                    self.assertIn(node.func.attr, own | METHODS, (name, node.lineno))
                if isinstance(node, ast.Raise):
                    self.assertIsInstance(node.exc, ast.Call, (name, node.lineno))
                    self.assertIn(node.exc.func.id, classes)

    def test_classes_are_called_or_tested_alone(self):
        classes = all_classes()
        for name, (_, tree) in FILES.items():
            good = []
            for node in ast.walk(tree):
                if isinstance(node, ast.Call):
                    good.append(node.func)
                    if isinstance(node.func, ast.Name) and node.func.id == "isinstance":
                        good.append(node.args[1])
                if isinstance(node, ast.ClassDef):
                    good.extend(node.bases)
                if isinstance(node, ast.ExceptHandler):
                    good.append(node.type)
                if isinstance(node, ast.Attribute):
                    good.append(node.value)
                if isinstance(node, ast.Compare) and isinstance(node.ops[0], (ast.Is, ast.IsNot)):
                    good.extend(node.comparators)
            for node in ast.walk(tree):
                if isinstance(node, ast.Name) and node.id in classes:
                    self.assertIn(node, good, (name, node.lineno))

    def test_sets_zips_and_views_are_used_at_once(self):
        views = {"zip", "enumerate", "range", "items", "values", "keys", "set", "reversed"}
        for name, (_, tree) in FILES.items():
            good = []
            for node in ast.walk(tree):
                if isinstance(node, (ast.For, ast.comprehension)):
                    good.append(node.iter)
                if isinstance(node, ast.Call) and isinstance(node.func, ast.Name):
                    if node.func.id in {"sorted", "list", "tuple", "dict", "sum", "any", "all", "len"}:
                        good.extend(node.args)
                    if node.func.id == "reversed":
                        good.extend([part for part in node.args if getattr(part.func, "id", "") == "range"])
            for function in functions_of(tree):
                good.extend(self.stored_sets(function))
            for node in ast.walk(tree):
                if isinstance(node, ast.Call):
                    word = node.func.id if isinstance(node.func, ast.Name) else node.func.attr
                    if word in views:
                        self.assertIn(node, good, (name, node.lineno))

    def stored_sets(self, function):
        """The sets that a function keeps in a variable, which it only measures, sorts, adds to and asks."""
        kept = [node for node in ast.walk(function) if isinstance(node, ast.Assign) and (
            isinstance(node.value, ast.SetComp) or
            isinstance(node.value, ast.Call) and getattr(node.value.func, "id", "") == "set")]
        for node in kept:
            told = node.targets[0].id
            good = []
            for other in ast.walk(function):
                if isinstance(other, ast.Call) and getattr(other.func, "id", "") in ("len", "sorted"):
                    good.append(other.args[0])
                if isinstance(other, ast.Attribute) and other.attr in ("add", "discard"):
                    good.append(other.value)
                if isinstance(other, ast.Compare) and isinstance(other.ops[0], (ast.In, ast.NotIn)):
                    good.append(other.comparators[0])
            uses = [other for other in ast.walk(function) if isinstance(other, ast.Name) and other.id == told]
            self.assertEqual([other for other in uses if other not in good], [node.targets[0]], (function.name, told))
        return [node.value for node in kept]


class Loops(unittest.TestCase):
    """What a loop or a comprehension walks is not changed in it, by whatever name."""

    def names_of(self, function):
        """For each name or attribute a word that it shares with those that may be names of the same value."""
        groups = {}
        for node in ast.walk(function):
            if isinstance(node, ast.Assign) and isinstance(node.value, (ast.Name, ast.Attribute)):
                for target in node.targets:
                    if isinstance(target, (ast.Name, ast.Attribute)):
                        one, other = ast.unparse(target), ast.unparse(node.value)
                        old, new = groups.get(one, one), groups.get(other, other)
                        groups = {key: new if word == old else word for key, word in groups.items()}
                        groups[one] = groups[other] = groups[old] = groups[new] = new
        return groups

    def walked(self, node):
        """What is walked, also through enumerate and the like, a choice or a view."""
        if isinstance(node, (ast.Name, ast.Attribute)):
            return [node]
        if isinstance(node, ast.IfExp):
            return self.walked(node.body) + self.walked(node.orelse)
        if isinstance(node, ast.BoolOp):
            return [found for part in node.values for found in self.walked(part)]
        if isinstance(node, ast.Subscript) and not isinstance(node.slice, ast.Slice):
            return self.walked(node.value)
        if isinstance(node, ast.Call) and isinstance(node.func, ast.Name) and node.func.id in ("enumerate", "zip", "reversed"):
            return [found for part in node.args for found in self.walked(part)]
        if isinstance(node, ast.Call) and isinstance(node.func, ast.Attribute) and node.func.attr in ("items", "keys", "values"):
            return self.walked(node.func.value)
        return []

    def changed(self, nodes):
        """What is changed in some rows."""
        for top in nodes:
            for node in ast.walk(top):
                if isinstance(node, ast.Call) and isinstance(node.func, ast.Attribute) and node.func.attr in CHANGES | {"add", "discard"}:
                    yield node.func.value
                if isinstance(node, ast.Subscript) and isinstance(node.ctx, (ast.Store, ast.Del)):
                    yield node.value
                if isinstance(node, ast.AugAssign):
                    yield node.target

    def loops(self, function):
        """What is walked and, for each, the rows in which it is."""
        for node in ast.walk(function):
            if isinstance(node, ast.For):
                yield node.iter, node.body
            if isinstance(node, (ast.ListComp, ast.DictComp, ast.SetComp)):
                for part in node.generators:
                    yield part.iter, [node]

    def check(self, function, name):
        groups = self.names_of(function)
        for walked, rows in self.loops(function):
            words = [ast.unparse(node) for node in self.walked(walked)]
            words = [groups.get(word, word) for word in words]
            for node in self.changed(rows):
                word = ast.unparse(node)
                self.assertNotIn(groups.get(word, word), words, (name, function.name, node.lineno))

    def test_what_is_walked_is_not_changed(self):
        for name, (_, tree) in FILES.items():
            for function in functions_of(tree):
                self.check(function, name)

    def test_the_check_itself(self):
        for text in ("def f(xs):\n for x in xs:\n  xs.append(x)", "def f(xs):\n for x in enumerate(xs):\n  del xs[0]",
                     "def f(d):\n for x in d.items():\n  d[x] = 1", "def f(xs, c):\n for x in (xs if c else []):\n  xs.pop()",
                     "def f(xs):\n for y in xs:\n  ys = []\n  for x in xs:\n   ys.append(x)\n  xs = ys",
                     "def f(s):\n rows = []\n for x in s.rows:\n  rows.append(x)\n s.rows = rows"):
            with self.assertRaises(AssertionError, msg=text):
                self.check(functions_of(ast.parse(text))[0], "")
        self.check(functions_of(ast.parse("def f(xs):\n for x in list(xs):\n  xs.append(x)"))[0], "")


class Operators(unittest.TestCase):
    """What operators, `==`, texts and lengths run changes nothing but what it makes itself."""

    def setUp(self):
        self.plain = {}
        self.classes = all_classes()
        self.methods = {}
        for name, (_, tree) in FILES.items():
            for node in tree.body:
                if isinstance(node, ast.FunctionDef):
                    self.plain.setdefault(node.name, []).append(node)
        for found in self.classes.values():
            for method in methods_of(found):
                self.methods.setdefault(method.name, []).append(method)

    def reached(self):
        waiting = [method for name in UNDERSCORED - {"__init__"} for method in self.methods.get(name, [])]
        seen = []
        while waiting:
            function = waiting.pop()
            if function in seen:
                continue
            seen.append(function)
            for node in ast.walk(function):
                if isinstance(node, ast.Call):
                    if isinstance(node.func, ast.Name):
                        waiting.extend(self.plain.get(node.func.id, []))
                        if node.func.id in self.classes:
                            waiting.extend([method for method in methods_of(self.classes[node.func.id])
                                            if method.name == "__init__"])
                    else:
                        waiting.extend(self.methods.get(node.func.attr, []))
        return seen

    def test_changes(self):
        for function in self.reached():
            fresh, other = set(), {part.arg for part in function.args.args}
            for node in ast.walk(function):
                if isinstance(node, ast.Assign):
                    for target in node.targets:
                        if isinstance(target, ast.Name):
                            made = isinstance(node.value, (ast.List, ast.Dict, ast.ListComp, ast.DictComp))
                            (fresh if made else other).add(target.id)
            fresh -= other
            for node in ast.walk(function):
                changed = None
                if isinstance(node, ast.Call) and isinstance(node.func, ast.Attribute) and node.func.attr in CHANGES:
                    changed = node.func.value
                if isinstance(node, ast.Subscript) and isinstance(node.ctx, (ast.Store, ast.Del)):
                    changed = node.value
                if changed is not None:
                    self.assertIsInstance(changed, ast.Name, (function.name, node.lineno))
                    self.assertIn(changed.id, fresh, (function.name, node.lineno))
                if isinstance(node, ast.Attribute) and isinstance(node.ctx, ast.Store):
                    self.assertEqual((function.name, node.value.id), ("__init__", "self"))

    def test_last_statements(self):
        for name in ("__str__", "__repr__"):
            for method in self.methods[name]:
                self.assertEqual(len(method.body), 1)
                value = method.body[0].value
                told = value.func.id if isinstance(value, ast.Call) else type(value).__name__
                self.assertIn(told, ("str", "repr", "JoinedStr"))
        for method in self.methods["__len__"]:
            self.assertEqual(method.body[0].value.func.id, "len")


if __name__ == "__main__":
    unittest.main()
