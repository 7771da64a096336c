"""What can be seen of the form of the code: sizes, characters, names and calls."""

import ast
import builtins
import io
import pathlib
import re
import tokenize
import unittest
import warnings

PACKAGE = pathlib.Path(__file__).resolve().parent.parent / "wonbyturns"
FILES = sorted(PACKAGE.rglob("*.py"))

BUILTINS = {name for name in dir(builtins) if not name.startswith("_")}
DECORATORS = {"property", "classmethod", "staticmethod"}
CALLED = set(
    "len range enumerate zip min max sum abs sorted int str bool list tuple dict set isinstance any all iter".split()
)
METHODS = set(
    "append clear copy count endswith extend find get index insert isalnum isalpha isascii isdigit islower isspace"
    " isupper items join keys ljust lower lstrip partition pop remove removeprefix removesuffix replace reverse rfind"
    " rjust rpartition rsplit rstrip setdefault split splitlines startswith strip update upper values zfill"
    " bit_length".split()
)
WORDS = set(
    "type typing typing_extensions enum Enum IntEnum StrEnum Flag IntFlag Generic Protocol ABC ABCMeta namedtuple"
    " NamedTuple TypedDict TYPE_CHECKING abstractmethod dataclass overload contextmanager".split()
)

VIEWS = {"items", "keys", "values"}
KEPT = {"range", "zip", "enumerate", "reversed"} | VIEWS
MEASURED = {"list", "tuple", "sorted", "sum", "min", "max", "any", "all"}
MORE = {"range": {"len", "enumerate", "reversed", "zip"}, **dict.fromkeys(VIEWS, {"len"})}
CHANGING = {
    "append", "clear", "extend", "insert", "pop", "remove", "reverse", "setdefault", "sort", "update", "add", "discard"
}
PUSHING = {"heappush", "heappop", "heapify", "heapreplace", "heappushpop"}


def kept_kind(node):
    """The name of the call if this makes a range, a zip or the like, or a view, and None otherwise."""
    if isinstance(node, ast.Call):
        if isinstance(node.func, ast.Name) and node.func.id in KEPT - VIEWS:
            return node.func.id
        if isinstance(node.func, ast.Attribute) and node.func.attr in VIEWS:
            return node.func.attr
    return None


def is_kept_well(kind, above, node):
    """Whether a name that keeps such a thing may stand where it stands; `above` is the node around it."""
    if isinstance(above, (ast.For, ast.comprehension)):
        return above.iter is node
    if isinstance(above, ast.Call) and isinstance(above.func, ast.Name) and node in above.args:
        return above.func.id in MEASURED | MORE.get(kind, set())
    if isinstance(above, ast.Compare):
        tested = isinstance(above.ops[0], (ast.In, ast.NotIn)) and above.comparators == [node]
        return tested and kind in VIEWS | {"range"}
    return (
        kind == "range" and isinstance(above, ast.Subscript) and above.value is node
        and not isinstance(above.slice, ast.Slice)
    )


def badly_kept(function):
    """The lines in which a function uses a kept range, zip or view in another way than it may."""
    around = {below: node for node in ast.walk(function) for below in ast.iter_child_nodes(node)}
    names = [node for node in ast.walk(function) if isinstance(node, ast.Name)]
    found = []
    for node in ast.walk(function):
        if isinstance(node, ast.Assign) and kept_kind(node.value):
            kind = kept_kind(node.value)
            own = [one for one in names if isinstance(node.targets[0], ast.Name) and one.id == node.targets[0].id]
            reads = [one for one in own if isinstance(one.ctx, ast.Load)]
            if len(own) != len(reads) + 1 or (kind in KEPT - VIEWS - {"range"} and len(reads) > 1):
                found.append(node.lineno)
            found.extend(one.lineno for one in reads if not is_kept_well(kind, around[one], one))
    return found


def chosen(node):
    """The names, attributes and items that an expression can be itself."""
    if isinstance(node, ast.IfExp):
        return chosen(node.body) + chosen(node.orelse)
    if isinstance(node, ast.BoolOp):
        return [one for value in node.values for one in chosen(value)]
    sliced = isinstance(node, ast.Subscript) and isinstance(node.slice, ast.Slice)
    return [ast.unparse(node)] if isinstance(node, (ast.Name, ast.Attribute, ast.Subscript)) and not sliced else []


def walked(node):
    """The names, attributes and items over which a loop with this head goes."""
    if kept_kind(node) in VIEWS:
        return chosen(node.func.value)
    if kept_kind(node):
        return [one for value in node.args for one in walked(value)]
    return chosen(node)


def changed(node):
    """The names, attributes and items that a part of the code changes."""
    if isinstance(node, ast.Call) and isinstance(node.func, ast.Attribute) and node.func.attr in CHANGING:
        return [ast.unparse(node.func.value)]
    if isinstance(node, ast.Call) and isinstance(node.func, ast.Name) and node.func.id in PUSHING:
        return [ast.unparse(node.args[0])]
    found = [ast.unparse(node.target)] if isinstance(node, ast.AugAssign) else []
    if isinstance(node, ast.Subscript) and not isinstance(node.ctx, ast.Load):
        found.append(ast.unparse(node.value))
    return found


def same_names(function):
    """For each name of a function those that it is assigned, or that are assigned it, one by the other."""
    lots = {}
    for node in ast.walk(function):
        if isinstance(node, ast.Assign):
            for target in node.targets:
                both = [(target, node.value)]
                if isinstance(target, ast.Tuple) and isinstance(node.value, ast.Tuple):
                    both = list(zip(target.elts, node.value.elts))
                for one, value in both:
                    for other in chosen(value):
                        lot = lots.get(other, {other}) | lots.get(ast.unparse(one), {ast.unparse(one)})
                        lots.update(dict.fromkeys(lot, lot))
    return lots


def changing_loops(function):
    """The lines of the loops of a function that change what they walk, read by names."""
    lots = same_names(function)
    found = []
    for loop in ast.walk(function):
        heads, body = [], []
        if isinstance(loop, ast.For):
            heads, body = [loop.iter], loop.body
        elif isinstance(loop, (ast.ListComp, ast.SetComp, ast.DictComp)):
            heads, body = [one.iter for one in loop.generators], [loop]
        names = {name for head in heads for one in walked(head) for name in lots.get(one, {one})}
        if any(one in names for part in body for node in ast.walk(part) for one in changed(node)):
            found.append(loop.lineno)
    return found


class Form(unittest.TestCase):
    def each_tree(self):
        """The files with their syntax trees."""
        return [(path, ast.parse(path.read_text())) for path in FILES]

    def each_function(self):
        """The files with their functions and methods."""
        return [
            (path, node) for path, tree in self.each_tree() for node in ast.walk(tree)
            if isinstance(node, ast.FunctionDef)
        ]

    def test_the_package_holds_files_of_code_alone(self):
        others = [path for path in PACKAGE.rglob("*") if path.is_file() and path.suffix not in (".py", ".pyc")]
        self.assertEqual(others, [])
        for folder in {path.parent for path in FILES}:
            self.assertTrue((folder / "__init__.py").exists(), folder)

    def test_lines(self):
        for path in FILES:
            text = path.read_text()
            with self.subTest(path.name):
                self.assertLessEqual(len(text.splitlines()), 399)
                self.assertLessEqual(max(map(len, text.split("\n"))), 120)
                self.assertEqual([sign for sign in text if sign != "\n" and not " " <= sign <= "~"], [])

    def test_python_warns_of_nothing(self):
        for path in FILES:
            with warnings.catch_warnings():
                warnings.simplefilter("error")
                compile(path.read_text(), str(path), "exec")

    def test_functions_are_short(self):
        for path, tree in self.each_tree():
            for node in ast.walk(tree):
                if isinstance(node, ast.FunctionDef):
                    self.assertLessEqual(node.end_lineno - node.lineno + 1, 40, f"{path}: {node.name}")
                    names = {one.id for one in node.decorator_list if isinstance(one, ast.Name)}
                    self.assertLessEqual(names, DECORATORS)

    def test_there_is_no_float(self):
        for path, tree in self.each_tree():
            for node in ast.walk(tree):
                self.assertNotIsInstance(node, ast.Div, path)
                if isinstance(node, ast.Constant):
                    self.assertNotIsInstance(node.value, float, path)

    def test_names_of_builtins_keep_their_meaning(self):
        for path, tree in self.each_tree():
            for node in ast.walk(tree):
                if isinstance(node, ast.Name) and isinstance(node.ctx, ast.Store):
                    self.assertNotIn(node.id, BUILTINS, path)
                if isinstance(node, ast.arg):
                    self.assertNotIn(node.arg, BUILTINS, path)

    def test_builtins_that_are_called(self):
        for path, tree in self.each_tree():
            for node in ast.walk(tree):
                if isinstance(node, ast.Call) and isinstance(node.func, ast.Name) and node.func.id in BUILTINS:
                    self.assertIn(node.func.id, CALLED | {error for error in BUILTINS if error.endswith("Error")}, path)
                    for keyword in node.keywords:
                        kept = {("sorted", "key"), ("sorted", "reverse"), ("min", "key"), ("max", "key"),
                                ("max", "default"), ("min", "default"), ("enumerate", "start")}
                        self.assertIn((node.func.id, keyword.arg), kept, path)
                    starred = any(isinstance(one, ast.Starred) for one in node.args)
                    self.assertTrue(not starred or node.func.id in ("zip", "min", "max"), path)

    def test_methods_and_attributes_are_known(self):
        own = set()
        for _, tree in self.each_tree():
            for node in ast.walk(tree):
                if isinstance(node, ast.ClassDef):
                    own |= {one.name for one in node.body if isinstance(one, ast.FunctionDef)}
                if isinstance(node, ast.Attribute) and isinstance(node.ctx, ast.Store):
                    own.add(node.attr)
        for path, tree in self.each_tree():
            for node in ast.walk(tree):
                if isinstance(node, ast.Attribute):
                    self.assertIn(node.attr, own | METHODS, path)

    def test_no_name_is_a_method_and_an_attribute(self):
        methods, properties, attributes = set(), set(), set()
        for _, tree in self.each_tree():
            for node in ast.walk(tree):
                if isinstance(node, ast.ClassDef):
                    for one in node.body:
                        if isinstance(one, ast.FunctionDef):
                            kinds = [name.id for name in one.decorator_list]
                            (properties if "property" in kinds else methods).add(one.name)
                if isinstance(node, ast.Attribute) and isinstance(node.ctx, ast.Store):
                    attributes.add(node.attr)
        self.assertEqual((methods & properties, methods & attributes, properties & attributes), (set(),) * 3)
        self.assertEqual((properties | attributes) & METHODS, set())

    def test_modules_hold_plain_values_functions_and_classes(self):
        for path, tree in self.each_tree():
            names = []
            for node in tree.body:
                if isinstance(node, (ast.FunctionDef, ast.ClassDef)):
                    names.append(node.name)
                elif isinstance(node, ast.ImportFrom):
                    names.extend(one.name for one in node.names)
                elif isinstance(node, ast.Assign):
                    self.assertEqual([one.__class__ for one in node.targets], [ast.Name], path)
                    names.append(node.targets[0].id)
                    for one in ast.walk(node.value):
                        self.assertNotIsInstance(one, (ast.Call, ast.ListComp, ast.DictComp, ast.Attribute), path)
                        if isinstance(one, ast.Name):
                            self.assertIn(one.id, names, path)
                else:
                    self.assertIsInstance(node, ast.Expr, path)
                    self.assertIsInstance(node.value.value, str, path)
            self.assertEqual(sorted(names), sorted(set(names)), path)

    def test_each_import_and_each_helper_is_used(self):
        for path, tree in self.each_tree():
            used = {node.id for node in ast.walk(tree) if isinstance(node, ast.Name)}
            kept = {one.name for node in tree.body if isinstance(node, ast.ImportFrom) for one in node.names}
            kept |= {node.name for node in tree.body if isinstance(node, ast.FunctionDef) and node.name[0] == "_"}
            self.assertEqual(kept - used, set(), path)

    def test_methods_with_two_underscores_assign_nothing(self):
        for path, tree in self.each_tree():
            for node in ast.walk(tree):
                if isinstance(node, ast.FunctionDef) and node.name in ("__eq__", "__len__", "__str__", "__contains__"):
                    for one in ast.walk(node):
                        self.assertNotIsInstance(one, (ast.Assign, ast.AugAssign, ast.For, ast.While), path)

    def test_words_signs_and_texts(self):
        for path in FILES:
            for token in tokenize.generate_tokens(io.StringIO(path.read_text()).readline):
                documented = token.string.startswith('"""')
                if token.type in (tokenize.NAME, tokenize.STRING) and not documented:
                    self.assertEqual(set(re.findall(r"\w+", token.string)) & WORDS, set(), path)
                if token.type == tokenize.STRING:
                    self.assertNotIn("%", token.string, path)

    def test_only_none_is_compared_by_is(self):
        for path, tree in self.each_tree():
            for node in ast.walk(tree):
                if isinstance(node, ast.Compare):
                    for sign, other in zip(node.ops, node.comparators):
                        if isinstance(sign, (ast.Is, ast.IsNot)):
                            self.assertTrue(isinstance(other, ast.Constant) and other.value is None, path)

    def test_imports_name_the_package_or_a_few_functions(self):
        for path, tree in self.each_tree():
            for node in ast.walk(tree):
                self.assertNotIsInstance(node, ast.Import)
                if isinstance(node, ast.ImportFrom):
                    self.assertEqual(node.level, 0)
                    library = ("heapq", "math", "itertools", "collections", "__future__")
                    self.assertTrue(node.module in library or node.module.startswith("wonbyturns."))
                    self.assertNotIn("*", [one.name for one in node.names])

    def test_names_of_imports_and_classes_keep_their_meaning(self):
        for path, tree in self.each_tree():
            own = {one.name for node in tree.body if isinstance(node, ast.ImportFrom) for one in node.names}
            own |= {node.name for node in tree.body if isinstance(node, ast.ClassDef)}
            for node in ast.walk(tree):
                if isinstance(node, ast.Name) and isinstance(node.ctx, ast.Store):
                    self.assertNotIn(node.id, own, path)
                if isinstance(node, ast.arg):
                    self.assertNotIn(node.arg, own, path)

    def test_lists_are_made_at_once_and_sorted_anew(self):
        for path, tree in self.each_tree():
            for node in ast.walk(tree):
                self.assertNotIsInstance(node, (ast.GeneratorExp, ast.Global, ast.Lambda, ast.NamedExpr), path)
                if isinstance(node, ast.Attribute):
                    self.assertNotIn(node.attr, ("sort", "keys", "format"), path)
                if isinstance(node, ast.Call) and isinstance(node.func, ast.Name):
                    self.assertNotIn(node.func.id, ("reversed", "map", "next", "print", "chr", "pow"), path)
                if isinstance(node, ast.For) or isinstance(node, ast.comprehension):
                    self.assertNotIsInstance(node.iter, (ast.Set, ast.SetComp), path)

    def test_kept_ranges_zips_and_views(self):
        for path, function in self.each_function():
            self.assertEqual(badly_kept(function), [], f"{path}: {function.name}")

    def test_what_is_kept_badly_is_seen(self):
        for kept, use, well in [
            ("range(n)", "[one for one in xs]", True),
            ("range(n)", "xs[0] + len(xs) + sum(xs)", True),
            ("range(n)", "list(enumerate(xs)) if n in xs else list(zip(xs, xs))", True),
            ("range(n)", "[one for one in xs[1:]]", False),
            ("range(n)", "xs[:n]", False),
            ("range(n)", "f(xs)", False),
            ("range(n)", "xs == n", False),
            ("range(n)", "xs", False),
            ("n.items()", "sorted(xs) + list(xs)", True),
            ("n.items()", "xs[0]", False),
            ("n.values()", "list(zip(xs, n))", False),
            ("zip(n, n)", "list(xs)", True),
            ("zip(n, n)", "list(xs) + list(xs)", False),
            ("enumerate(n)", "xs[1:]", False),
        ]:
            function = ast.parse(f"def told(n):\n    xs = {kept}\n    return {use}\n").body[0]
            with self.subTest(kept=kept, use=use):
                self.assertEqual(badly_kept(function) == [], well)
        twice = ast.parse("def told(n):\n    xs = range(n)\n    xs = range(1, n)\n    return list(xs)\n").body[0]
        self.assertEqual(badly_kept(twice), [2, 3])

    def test_no_loop_changes_what_it_walks(self):
        for path, function in self.each_function():
            self.assertEqual(changing_loops(function), [], f"{path}: {function.name}")

    def test_a_loop_that_changes_what_it_walks_is_seen(self):
        for head, body, behind, well in [
            ("xs", "ys.append(one)", "ys = []", True),
            ("xs", "ys.append(one)", "xs = ys", False),
            ("list(xs)", "ys.append(one)", "xs = ys", True),
            ("xs[:]", "ys.append(one)", "xs = ys", True),
            ("xs", "ys.append(one)", "zs = ys; xs = zs", False),
            ("xs", "ys.append(one)", "xs, zs = ys, xs", False),
            ("xs", "ys.append(one)", "xs = ys or []", False),
            ("enumerate(xs)", "xs.append(one)", "pass", False),
            ("zip(ys, xs)", "xs[0] = one", "pass", False),
            ("xs.items()", "del xs[one]", "pass", False),
            ("xs if ys else zs", "zs.pop()", "pass", False),
            ("xs[0]", "xs[0].append(one)", "pass", False),
            ("xs[0]", "xs[1].append(one)", "pass", True),
            ("xs", "xs += [one]", "pass", False),
            ("xs", "heappush(xs, one)", "pass", False),
        ]:
            loop = f"        for one in {head}:\n            {body}\n        {behind}\n"
            function = ast.parse("def told(xs, ys, zs):\n    while xs:\n" + loop).body[0]
            with self.subTest(head=head, body=body, behind=behind):
                self.assertEqual(changing_loops(function), [] if well else [3])

    def test_no_two_files_import_from_each_other(self):
        needs = {}
        for path, tree in self.each_tree():
            name = ".".join(path.relative_to(PACKAGE.parent).with_suffix("").parts)
            needs[name] = {node.module for node in tree.body if isinstance(node, ast.ImportFrom)}
        while needs:
            free = {name for name in needs if not needs[name] & set(needs)}
            self.assertTrue(free, needs)
            needs = {name: needs[name] for name in needs if name not in free}

    def test_a_class_with_items_tells_how_it_is_iterated_over(self):
        for path, tree in self.each_tree():
            for node in ast.walk(tree):
                if isinstance(node, ast.ClassDef):
                    methods = {one.name for one in node.body if isinstance(one, ast.FunctionDef)}
                    if "__getitem__" in methods:
                        self.assertIn("__iter__", methods, path)


if __name__ == "__main__":
    unittest.main()
