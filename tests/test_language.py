"""The package keeps to the small part of Python that it is written in, as far as its text shows."""

import ast
import builtins
import unittest
from pathlib import Path

PACKAGE = Path(__file__).resolve().parent.parent / "neverlouder"
FILES = sorted(path for path in PACKAGE.iterdir() if path.name != "__pycache__")
TREES = {path.stem: ast.parse(path.read_text(encoding="utf-8")) for path in FILES}

# The doctests leave a result under "_".
BUILT_IN = [name for name in vars(builtins) if name != "_"]
BUILTINS = (
    "len range enumerate zip min max sum abs sorted reversed int str bool list tuple dict set isinstance ord repr any "
    "all divmod Exception ValueError TypeError KeyError IndexError LookupError ZeroDivisionError ArithmeticError "
    "OverflowError RuntimeError NotImplementedError property classmethod staticmethod"
).split()
METHODS = (
    "append clear copy count endswith extend find get index insert isalnum isalpha isdigit islower isspace isupper "
    "items join keys ljust lower lstrip partition pop remove replace reverse rfind rjust rpartition rsplit rstrip "
    "setdefault split splitlines startswith strip update upper values zfill bit_length isascii removeprefix"
).split()
DOUBLE = (
    "__init__ __eq__ __repr__ __str__ __len__ __add__ __radd__ __sub__ __rsub__ __mul__ __rmul__ __neg__ "
    "__getitem__ __iter__ __contains__ __call__ __enter__ __exit__"
).split()
BARRED = (
    "register mro elements open input law version_info with_traceback add_note attrgetter breakpoint builtins compile "
    "copyright credits delattr dir eval exec exit gc getattr globals hasattr help id importlib license locals "
    "methodcaller os quit setattr super type vars sys"
).split()
STATEMENTS = (
    ast.Assign, ast.AugAssign, ast.If, ast.While, ast.For, ast.Return, ast.Break, ast.Continue, ast.Pass, ast.Raise,
    ast.Assert, ast.Delete, ast.Expr, ast.FunctionDef, ast.ClassDef, ast.ImportFrom, ast.Try, ast.With,
)
BARRED_NODES = (
    ast.GeneratorExp, ast.Lambda, ast.Yield, ast.YieldFrom, ast.Await, ast.AnnAssign, ast.NamedExpr, ast.Div,
    ast.MatMult, ast.Match, ast.Global, ast.Nonlocal, ast.Import, ast.AsyncFunctionDef,
)
OWN_ERRORS = ["BoxError", "LimitError", "MissingError", "StateError"]


def nodes(kind):
    return [(stem, node) for stem, tree in TREES.items() for node in ast.walk(tree) if isinstance(node, kind)]


def functions(tree):
    return [node for node in ast.walk(tree) if isinstance(node, ast.FunctionDef)]


def bound_above(tree):
    """The names that a file binds at module level."""
    found = []
    for node in tree.body:
        if isinstance(node, (ast.FunctionDef, ast.ClassDef)):
            found.append(node.name)
        elif isinstance(node, ast.ImportFrom):
            found += [alias.name for alias in node.names]
        elif isinstance(node, ast.Assign):
            found += [target.id for target in node.targets]
    return found


def own_names(tree):
    return [node.name for node in tree.body if isinstance(node, (ast.FunctionDef, ast.ClassDef))] + [
        target.id for node in tree.body if isinstance(node, ast.Assign) for target in node.targets
    ]


def inner_names(function):
    """The parameters of a function and what it assigns."""
    found = [argument.arg for argument in function.args.args]
    for node in ast.walk(function):
        if isinstance(node, ast.Name) and isinstance(node.ctx, ast.Store):
            found.append(node.id)
    return found



class Files(unittest.TestCase):
    def test_folder(self):
        for path in FILES:
            self.assertEqual(path.suffix, ".py")
            self.assertTrue(path.stem.replace("_", "a").isalnum() and path.stem.islower())
        self.assertLessEqual(len(FILES), 100)
        self.assertIn("__init__", TREES)

    def test_sizes(self):
        for path in FILES:
            text = path.read_text(encoding="utf-8")
            lines = text.split("\n")
            self.assertLessEqual(len(lines), 399, path.name)
            self.assertLessEqual(max([len(line) for line in lines]), 120, path.name)
            self.assertTrue(all([sign == "\n" or " " <= sign <= "~" for sign in text]), path.name)

    def test_functions(self):
        for stem, function in nodes(ast.FunctionDef):
            many = function.end_lineno - function.lineno + 1
            self.assertLessEqual(many, 40, (stem, function.name))

    def test_module_level(self):
        for stem, tree in TREES.items():
            for at, node in enumerate(tree.body):
                doc = at == 0 and isinstance(node, ast.Expr) and isinstance(node.value, ast.Constant)
                plain = isinstance(node, (ast.FunctionDef, ast.ClassDef, ast.ImportFrom, ast.Assign))
                self.assertTrue(doc or plain, (stem, node.lineno))
                if isinstance(node, ast.Assign):
                    self.look_at_value(node.value, [one.name for one in tree.body[:at] if hasattr(one, "name")])
            bound = bound_above(tree)
            self.assertEqual(sorted(bound), sorted(set(bound)), stem)


    def look_at_value(self, value, above):
        """A plain value, or a dict of functions that are defined above."""
        if isinstance(value, ast.Dict) and isinstance(value.values[0], ast.Name):
            for key, one in zip(value.keys, value.values):
                self.assertIsInstance(key, ast.Constant)
                self.assertIn(one.id, above)
        else:
            ast.literal_eval(value)


class Imports(unittest.TestCase):
    def test_imports(self):
        for stem, node in nodes(ast.ImportFrom):
            self.assertEqual(node.level, 0)
            for alias in node.names:
                self.assertIsNone(alias.asname)
                if node.module == "math":
                    self.assertIn(alias.name, ("gcd", "lcm", "isqrt", "comb", "perm", "factorial"))
                else:
                    package, name = node.module.split(".")
                    self.assertEqual(package, "neverlouder")
                    self.assertIn(alias.name, own_names(TREES[name]), stem)

    def test_all_are_used(self):
        for stem, tree in TREES.items():
            used = [node.id for node in ast.walk(tree) if isinstance(node, ast.Name)]
            for node in tree.body:
                if isinstance(node, ast.ImportFrom):
                    for alias in node.names:
                        self.assertIn(alias.name, used, stem)

    def test_no_rings(self):
        below = {}
        for stem, tree in TREES.items():
            found = [node.module.split(".")[-1] for node in tree.body if isinstance(node, ast.ImportFrom)]
            below[stem] = [name for name in found if name in TREES]
        left = dict(below)
        while left:
            free = [stem for stem in left if not [name for name in left[stem] if name in left]]
            self.assertTrue(free, left)
            left = {stem: left[stem] for stem in left if stem not in free}


class Words(unittest.TestCase):
    def test_statements(self):
        for stem, node in nodes(ast.stmt):
            self.assertIsInstance(node, STATEMENTS, (stem, node.lineno))
        self.assertEqual([(stem, node.lineno) for stem, node in nodes(BARRED_NODES)], [])

    def test_builtins(self):
        for stem, tree in TREES.items():
            for node in ast.walk(tree):
                if isinstance(node, ast.Name) and node.id in BUILT_IN:
                    self.assertIn(node.id, BUILTINS, (stem, node.lineno))

    def test_no_name_is_taken_twice(self):
        for stem, tree in TREES.items():
            taken = [alias.name for node in tree.body if isinstance(node, ast.ImportFrom) for alias in node.names]
            taken += [node.name for node in tree.body if isinstance(node, ast.ClassDef)]
            for function in functions(tree):
                for name in inner_names(function):
                    self.assertNotIn(name, taken, (stem, function.name))
                    self.assertNotIn(name, BUILT_IN, stem)
                    self.assertNotIn(name, BARRED)
                self.assertNotIn(function.name, BARRED)

    def test_names(self):
        for stem, tree in TREES.items():
            for node in ast.walk(tree):
                name = getattr(node, "id", None) or getattr(node, "attr", None) or getattr(node, "arg", None)
                if isinstance(name, str):
                    self.assertFalse(name.startswith("__"), (stem, name))
                    self.assertNotIn(name, ("_", "_wall") if isinstance(getattr(node, "ctx", None), ast.Load) else ())
        for stem, function in nodes(ast.FunctionDef):
            if function.name.startswith("__"):
                self.assertIn(function.name, DOUBLE)

    def test_methods(self):
        own = [function.name for _, function in nodes(ast.FunctionDef)]
        for stem, node in nodes(ast.Call):
            if isinstance(node.func, ast.Attribute):
                self.assertIn(node.func.attr, own + METHODS, (stem, node.lineno))
                self.assertNotEqual(node.func.attr, "sort")
            elif node.func.id in BUILT_IN:
                self.assertEqual(node.keywords, [], (stem, node.lineno))

    def test_decorators(self):
        for stem, node in nodes((ast.FunctionDef, ast.ClassDef)):
            for one in node.decorator_list:
                self.assertIn(one.id, ("property", "classmethod", "staticmethod"), stem)
            if isinstance(node, ast.FunctionDef):
                self.assertIsNone(node.returns)
                self.assertEqual([one.annotation for one in node.args.args if one.annotation], [])

    def test_texts_and_numbers(self):
        for stem, node in nodes(ast.Constant):
            self.assertNotIsInstance(node.value, (float, complex, bytes), (stem, node.lineno))
            if isinstance(node.value, str):
                self.assertNotIn(chr(37), node.value, stem)
        for stem, node in nodes(ast.Pow):
            self.fail(stem)

    def test_errors(self):
        for stem, node in nodes(ast.ExceptHandler):
            self.assertEqual(sorted([one.id for one in node.type.elts]), OWN_ERRORS, (stem, node.lineno))
        for stem, node in nodes(ast.Raise):
            self.assertIsInstance(node.exc, ast.Call, (stem, node.lineno))
            self.assertTrue(node.cause is None or node.cause.id == "error", (stem, node.lineno))

    def test_ends(self):
        """What stands in a `finally` and in `__exit__` is plain assignments."""
        rows = [row for _, node in nodes(ast.Try) for row in node.finalbody]
        rows += [row for _, node in nodes(ast.FunctionDef) if node.name == "__exit__" for row in node.body]
        self.assertTrue(rows)
        for row in rows:
            self.assertIsInstance(row, ast.Assign)
            self.assertIsInstance(row.value, (ast.Name, ast.Attribute))

    def test_what_has_items_is_not_iterated_over(self):
        for stem, node in nodes(ast.ClassDef):
            methods = {one.name: one for one in node.body if isinstance(one, ast.FunctionDef)}
            self.assertEqual("__getitem__" in methods, "__iter__" in methods, stem)
            if "__iter__" in methods:
                self.assertIsInstance(methods["__iter__"].body[0], ast.Raise)
        for stem, node in nodes(ast.Call):
            if isinstance(node.func, ast.Name) and node.func.id == "reversed":
                self.assertEqual(node.args[0].func.id, "range", (stem, node.lineno))

    def test_is(self):
        for stem, node in nodes(ast.Compare):
            for sign, right in zip(node.ops, node.comparators):
                if isinstance(sign, (ast.Is, ast.IsNot)):
                    self.assertIsInstance(right, ast.Constant, (stem, node.lineno))

    def test_double_underscore_methods_assign_nothing(self):
        for stem, function in nodes(ast.FunctionDef):
            if function.name in ("__eq__", "__repr__", "__str__", "__len__"):
                for node in ast.walk(function):
                    self.assertNotIsInstance(node, (ast.Assign, ast.AugAssign), (stem, function.name))
                self.assertIsInstance(function.body[-1], ast.Return)

    def test_no_loop_changes_what_it_goes_over(self):
        for stem, node in nodes(ast.For):
            over = [one.id for one in ast.walk(node.iter) if isinstance(one, ast.Name)]
            for inner in node.body:
                for one in ast.walk(inner):
                    if isinstance(one, ast.Subscript) and isinstance(one.ctx, ast.Store):
                        self.assertNotIn(one.value.id, over, (stem, node.lineno))
                    if isinstance(one, ast.Call) and isinstance(one.func, ast.Attribute):
                        changes = one.func.attr in ("append", "pop", "extend", "insert", "clear", "remove", "reverse")
                        self.assertFalse(changes and one.func.value.id in over, (stem, node.lineno))


INTERFACE = {
    "basics": "is_integer is_count", "ratios": "is_ratio Ratio", "twins": "is_value is_point is_unit as_twin Twin",
    "curves": (
        "is_curve told degree leading plus minus times scaled divided common worth_at derived moved mirrored turned"
    ),
    "series": "quotient_series quotient_at product_series series_at",
    "tables": "is_table form plus_tables entry_product times_table shared picked",
    "squares": "is_never_below squares is_squares", "bars": "bar is_bar least_part",
    "ranks": "signs rank determinant nothing", "boxes": "Box", "played": "answers force is_softer",
    "tones": "tone force_table",
    "made": "made_table mixture_in mixture_out does telling_of is_doable kind",
    "steps": "sequence step parameters stepped step_box step_back", "built": "is_steps box_of steps_of shows",
    "barred": "rest_table leading_table led_back bar_of is_bar_of", "family": "family free_at",
    "members": "member free_of only_box", "spots": "spot next_spot is_in_spot is_on_rim on_rim_box goes_with",
    "turns": "Turn box_put box_moved moved_telling answers_moved turn_by",
    "distances": "distance round_spot two_let far_pair lone_spots",
    "beginnings": "knocks_let schur_of schur from_schur next_knock",
    "bounds": "made_table_within is_doable_within bar_within is_bar_within",
    "within": "is_steps_within box_of_within steps_within box_within shows_within spot_within is_in_spot_within",
    "softest": "shown_by softest_between is_softest", "choices": "is_doable_lot greatest_lots fewest_out",
    "rims": "rim_place rim_curve real_roots is_nowhere_below",
    "judged": "is_steady is_never_louder loud_point is_loud_point is_strictly_softer touches",
    "joined": "product share delayed put_in led product_telling share_telling",
    "keepers": "is_keeper keeper keeper_of noughts without_nought keeper_by",
    "texts": "value_word telling_text box_text steps_text turn_text weights_text text_of",
    "forms": "read_value read_telling read_box read_steps read_turn read_weights read",
    "claims": "words is_claim is_true contrary paper_of is_paper_of", "commands": "is_name is_command is_deed",
    "desk": "Desk Trial tried",
}
IN_CLASSES = {
    "Ratio": (
        "top bottom sign is_whole over unsigned is_below is_at_most sum_of __add__ __radd__ __sub__ __rsub__ __mul__ "
        "__rmul__ __neg__ __eq__ __str__ __repr__ __init__"
    ),
    "Twin": (
        "plain side is_plain is_nought over mirror size power total __add__ __radd__ __sub__ __rsub__ __mul__ "
        "__rmul__ __neg__ __eq__ __str__ __repr__ __init__"
    ),
    "Box": "degree curves worth around knock __eq__ __repr__ __init__",
    "Turn": "parts at back behind __eq__ __repr__ __init__",
    "Desk": (
        "names labels __len__ __getitem__ __contains__ claim_of do __call__ do_all attempt attach fits lines copy again "
        "__init__"
    ),
    "Trial": "__init__ __enter__ __exit__",
}


class Interface(unittest.TestCase):
    def test_defined_where_they_are_listed(self):
        for stem, names in INTERFACE.items():
            for name in names.split():
                self.assertIn(name, own_names(TREES[stem]))

    def test_methods_in_their_classes(self):
        held = {node.name: node for _, node in nodes(ast.ClassDef)}
        for name, methods in IN_CLASSES.items():
            found = [node.name for node in held[name].body if isinstance(node, ast.FunctionDef)]
            for method in methods.split():
                self.assertIn(method, found, name)


if __name__ == "__main__":
    unittest.main()
