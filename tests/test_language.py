"""The rules of the language subset that a script can see in the package's files."""

import ast
import builtins
import functools
import os
import re
import unittest
import warnings

ROOT = os.path.dirname(os.path.dirname(os.path.abspath(__file__)))
PACKAGE = os.path.join(ROOT, "gaugeroad")

LIBRARY = {"math": {"gcd", "lcm", "isqrt", "comb", "perm", "factorial"},
           "heapq": {"heappush", "heappop", "heapify", "heapreplace", "heappushpop"},
           "itertools": {"product", "combinations", "permutations"}}
BUILTINS = set("""len range enumerate zip min max sum abs sorted reversed int str bool list tuple dict set
isinstance ord repr any all divmod iter next map super property staticmethod classmethod
Exception ValueError TypeError KeyError IndexError LookupError ZeroDivisionError ArithmeticError OverflowError
RuntimeError NotImplementedError AttributeError StopIteration NotImplemented""".split())
METHODS = set("""append clear copy count endswith extend find get index insert isalnum isalpha isdigit islower
isspace isupper items join keys ljust lower lstrip partition pop remove replace reverse rfind rjust rpartition
rsplit rstrip setdefault split splitlines startswith strip update upper values zfill bit_length""".split())
DUNDERS = set("""__init__ __eq__ __repr__ __str__ __len__ __enter__ __exit__ __call__ __iter__ __lt__ __le__
__gt__ __ge__ __ne__ __add__ __sub__ __mul__ __floordiv__ __mod__ __pow__ __and__ __or__ __xor__ __lshift__
__rshift__ __radd__ __rsub__ __rmul__ __rfloordiv__ __rmod__ __rand__ __ror__ __rxor__ __rlshift__
__rrshift__ __neg__ __pos__ __invert__ __abs__ __bool__ __contains__ __getitem__ __setitem__""".split())
NEVER = set("""register mro elements open input law version_info with_traceback add_note""".split())
NO_NAMES = set("""attrgetter breakpoint builtins compile copyright credits delattr dir eval exec exit gc getattr
globals hasattr help id importlib license locals methodcaller os quit setattr super type vars sys""".split())
NO_WORDS = set("""type typing typing_extensions enum Enum IntEnum StrEnum Flag IntFlag Generic Protocol ABC
ABCMeta namedtuple NamedTuple TypedDict TYPE_CHECKING abstractmethod""".split())
NO_PIECES = ("dataclass", "overload", "contextmanager", "(type)", "Meta", "metaclass=", "_wall", "_WallAttr")
NO_ATTRIBUTES = set("""items keys values pop update append clear extend insert remove reverse setdefault sort args
encode decode hex fromhex format format_map mro as_integer_ratio bit_count conjugate from_bytes is_integer
to_bytes real imag numerator denominator""".split())
VIEWS = ("items", "keys", "values")
CHANGING = ("append", "extend", "insert", "pop", "remove", "reverse", "sort", "clear", "update", "setdefault")
# A class of the package has a method of such a name, so sets have to do without them.
NO_SET_CALLS = {"add", "discard"}


def files():
    return sorted(name for name in os.listdir(PACKAGE) if name != "__pycache__")


def source(name):
    with open(os.path.join(PACKAGE, name), encoding="utf-8") as handle:
        return handle.read()


@functools.lru_cache(maxsize=None)
def trees():
    return {name: ast.parse(source(name)) for name in files()}


def functions(tree):
    return [node for node in ast.walk(tree) if isinstance(node, ast.FunctionDef)]


def classes(tree):
    return [node for node in ast.walk(tree) if isinstance(node, ast.ClassDef)]


def parents(tree):
    found = {}
    for node in ast.walk(tree):
        for child in ast.iter_child_nodes(node):
            found[child] = node
    return found


def is_call_of(node, *names):
    return isinstance(node, ast.Call) and isinstance(node.func, ast.Name) and node.func.id in names


def decorators(node):
    """The words over a function: the setter of a property has just that one."""
    return [one.attr if isinstance(one, ast.Attribute) else one.id for one in node.decorator_list]


def is_generator(node):
    return any(isinstance(one, (ast.Yield, ast.YieldFrom)) for one in ast.walk(node))


def is_plain(node):
    """Whether a module-level expression is a plain value."""
    if isinstance(node, ast.Constant):
        return isinstance(node.value, (int, str)) or node.value is None
    if isinstance(node, ast.BinOp):
        return is_plain(node.left) and is_plain(node.right)
    if isinstance(node, ast.UnaryOp):
        return is_plain(node.operand)
    if isinstance(node, ast.Tuple):
        return all(is_plain(item) for item in node.elts)
    return False


def is_table(node, above):
    """Whether a module-level expression is a dict of plain values, or of functions above it."""
    if not isinstance(node, ast.Dict):
        return False
    words = [isinstance(key, ast.Constant) for key in node.keys]
    values = [is_plain(one) or (isinstance(one, ast.Name) and one.id in above) for one in node.values]
    return all(words) and all(values)


def is_simple(node, properties):
    """Whether an argument is a name, an attribute off a name that is no property, a literal, or a row of such."""
    if isinstance(node, ast.Attribute):
        return isinstance(node.value, ast.Name) and node.attr not in properties
    if isinstance(node, (ast.List, ast.Tuple)):
        return all(is_simple(one, properties) for one in node.elts)
    return isinstance(node, (ast.Name, ast.Constant))


def aliases(node):
    """Which names and attributes a function gives to names, as they are."""
    found = []
    for one in ast.walk(node):
        if not isinstance(one, ast.Assign):
            continue
        for target in one.targets:
            pairs = [(target, one.value)]
            if isinstance(target, ast.Tuple) and isinstance(one.value, ast.Tuple):
                pairs = list(zip(target.elts, one.value.elts))
            found.extend((ast.unparse(left), ast.unparse(right)) for left, right in pairs
                         if isinstance(right, (ast.Name, ast.Attribute)))
    return found


def walked(node):
    """The names and attributes that a loop goes over, also through enumerate, zip and views."""
    if isinstance(node, (ast.Name, ast.Attribute)):
        return [ast.unparse(node)]
    if is_call_of(node, "enumerate", "zip", "reversed", "list", "sorted"):
        plain = is_call_of(node, "list", "sorted")
        return [] if plain else [name for arg in node.args for name in walked(arg)]
    if isinstance(node, ast.Call) and isinstance(node.func, ast.Attribute) and node.func.attr in VIEWS:
        return walked(node.func.value)
    return walked(node.value) if isinstance(node, ast.Subscript) else []


def changed_in(rows):
    """The names and attributes that statements change in place."""
    for row in rows:
        for one in ast.walk(row):
            if isinstance(one, ast.Subscript) and not isinstance(one.ctx, ast.Load):
                yield ast.unparse(one.value)
            elif isinstance(one, ast.Call) and isinstance(one.func, ast.Attribute) and one.func.attr in CHANGING:
                yield ast.unparse(one.func.value)


def bound_names(tree):
    """Each name that is bound anywhere in a file, with the node that binds it."""
    for node in ast.walk(tree):
        if isinstance(node, (ast.FunctionDef, ast.ClassDef)):
            yield node.name, node
        elif isinstance(node, ast.arg):
            yield node.arg, node
        elif isinstance(node, ast.Name) and isinstance(node.ctx, ast.Store):
            yield node.id, node
        elif isinstance(node, ast.Attribute):
            yield node.attr, node
        elif isinstance(node, ast.keyword) and node.arg:
            yield node.arg, node


class TestFiles(unittest.TestCase):
    def test_files_are_plain(self):
        self.assertLessEqual(len(files()), 100)
        for name in files():
            with self.subTest(name=name):
                self.assertRegex(name, r"^(__init__|[a-z][a-z0-9_]*)\.py$")
                stem = name[:-3]
                self.assertFalse(stem != "__init__" and hasattr(builtins, stem))
                self.assertNotIn(stem, NEVER | {"test", "tests", "testing", "site", "conftest", "math", "heapq"})
                self.assertFalse(stem.startswith(("law_", "test_")))
        self.assertIn("__init__.py", files())

    def test_characters_and_lengths(self):
        for name in files():
            text = source(name)
            with self.subTest(name=name):
                self.assertEqual(re.findall(r"[^ -~\n]", text), [])
                lines = text.split("\n")
                self.assertLessEqual(len(lines), 399)
                self.assertLessEqual(max(len(line) for line in lines), 120)

    def test_functions_are_short(self):
        for name, tree in trees().items():
            for node in functions(tree):
                with self.subTest(name=name, function=node.name):
                    self.assertLessEqual(node.end_lineno - node.lineno + 1, 40)

    def test_no_warnings(self):
        for name in files():
            with warnings.catch_warnings():
                warnings.simplefilter("error")
                compile(source(name), name, "exec")

    def test_words_that_are_barred(self):
        for name, tree in trees().items():
            text = source(name)
            for piece in NO_PIECES:
                self.assertNotIn(piece, text, name)
            docs = {node.body[0].value for node in ast.walk(tree)
                    if isinstance(node, (ast.Module, ast.ClassDef, ast.FunctionDef)) and node.body
                    and isinstance(node.body[0], ast.Expr) and isinstance(node.body[0].value, ast.Constant)}
            for node in ast.walk(tree):
                if isinstance(node, ast.Constant) and isinstance(node.value, str):
                    self.assertNotIn("%", node.value, name)
                    self.assertFalse(node.value.endswith(("._", ".__")), name)
                    if node not in docs:
                        self.assertEqual(set(re.findall(r"\w+", node.value)) & NO_WORDS, set(), name)
            for word, _ in bound_names(tree):
                self.assertNotIn(word, NO_WORDS, name)


    def test_strings_with_braces(self):
        for name, tree in trees().items():
            for node in ast.walk(tree):
                if isinstance(node, ast.JoinedStr):
                    text = ast.get_source_segment(source(name), node)
                    self.assertEqual(set(text) & set("#\\\n"), set(), (name, node.lineno))
                    self.assertTrue(text.startswith('f"'), (name, node.lineno))


class TestNames(unittest.TestCase):
    def test_names_are_plain_and_free(self):
        for name, tree in trees().items():
            for word, node in bound_names(tree):
                with self.subTest(name=name, word=word):
                    self.assertNotIn(word, NEVER)
                    if not isinstance(node, ast.Attribute):
                        self.assertNotIn(word, NO_NAMES)
                    if word not in DUNDERS and word != "_":
                        self.assertRegex(word, r"^_?[A-Za-z][A-Za-z0-9_]*$")
                    self.assertNotRegex(word, r"^_(pe|dcw|enum|cm|twin_re|lay|law|stub|sre|cold|outside|record)")

    def test_no_builtin_has_another_meaning(self):
        for name, tree in trees().items():
            kept = parents(tree)
            for word, node in bound_names(tree):
                if isinstance(node, (ast.Attribute, ast.keyword)):
                    continue
                is_method = isinstance(node, ast.FunctionDef) and isinstance(kept[node], ast.ClassDef)
                if not is_method:
                    self.assertFalse(hasattr(builtins, word), (name, word))
                self.assertNotIn(word, BUILTINS, name)

    def test_one_binding_for_each_name(self):
        for name, tree in trees().items():
            top = []
            outer = set()
            for node in tree.body:
                if isinstance(node, ast.ImportFrom):
                    top.extend(alias.name for alias in node.names)
                    outer.update(alias.name for alias in node.names)
                elif isinstance(node, (ast.FunctionDef, ast.ClassDef)):
                    top.append(node.name)
                    if isinstance(node, ast.ClassDef):
                        outer.add(node.name)
                elif isinstance(node, ast.Assign):
                    top.append(node.targets[0].id)
            self.assertEqual(len(top), len(set(top)), name)
            for node in functions(tree):
                inner = [arg.arg for arg in ast.walk(node) if isinstance(arg, ast.arg)]
                inner += [n.id for n in ast.walk(node) if isinstance(n, ast.Name) and isinstance(n.ctx, ast.Store)]
                self.assertEqual(set(inner) & outer, set(), (name, node.name))

    def test_attributes_and_methods_are_apart(self):
        methods, stored, values, properties, setters = {}, {}, {}, {}, {}
        for name, tree in trees().items():
            for box in classes(tree):
                for node in box.body:
                    if isinstance(node, ast.FunctionDef):
                        kinds = {"property": properties, "setter": setters}
                        found = kinds.get("".join(decorators(node)), methods)
                        found.setdefault(node.name, []).append(box.name)
                    elif isinstance(node, ast.Assign):
                        values.setdefault(node.targets[0].id, []).append(box.name)
                for node in ast.walk(box):
                    if isinstance(node, ast.Attribute) and isinstance(node.ctx, ast.Store):
                        stored.setdefault(node.attr, []).append(box.name)
        # No name is both anywhere: that is more than the rule asks for, and easier to see.
        self.assertEqual(set(methods) & set(stored), set())
        self.assertEqual(set(values) & (set(stored) | set(methods) | set(properties)), set())
        self.assertEqual(set(methods) & set(properties), set())
        self.assertEqual({name for name in set(stored) & set(properties) if properties[name] != setters.get(name)},
                         set())
        self.assertEqual(set(stored) & NO_ATTRIBUTES, set())
        self.assertEqual(set(methods) & (NO_ATTRIBUTES | METHODS), set())

    def test_calls_are_of_own_or_listed_names(self):
        own = {node.name for tree in trees().values() for node in functions(tree)}
        boxes = {node.name for tree in trees().values() for node in classes(tree)}
        for name, tree in trees().items():
            for node in ast.walk(tree):
                if not isinstance(node, ast.Call):
                    continue
                if isinstance(node.func, ast.Attribute):
                    self.assertIn(node.func.attr, own | METHODS | {"__init__"}, name)
                    self.assertNotIn(node.func.attr, NO_SET_CALLS, name)
                else:
                    self.assertIsInstance(node.func, ast.Name, name)
                    self.assertIn(node.func.id, own | boxes | BUILTINS | LIBRARY["math"] | {"cls", "work", "action"}, name)


class TestStatements(unittest.TestCase):
    def test_imports(self):
        for name, tree in trees().items():
            rest = False
            for node in tree.body:
                is_import = isinstance(node, (ast.Import, ast.ImportFrom))
                self.assertFalse(is_import and rest, name)
                rest = rest or not (is_import or isinstance(node, ast.Expr))
            for node in ast.walk(tree):
                self.assertNotIsInstance(node, ast.Import, name)
                if not isinstance(node, ast.ImportFrom):
                    continue
                self.assertEqual(node.level, 0)
                told = {alias.name for alias in node.names}
                self.assertEqual([alias.asname for alias in node.names if alias.asname], [])
                if node.module in LIBRARY:
                    self.assertLessEqual(told, LIBRARY[node.module])
                    continue
                package, stem = node.module.split(".")
                self.assertEqual(package, "gaugeroad")
                defined = {word for word, owner in bound_names(ast.parse(source(stem + ".py")))}
                self.assertLessEqual(told, defined, name)

    def test_imports_are_used(self):
        for name, tree in trees().items():
            used = {node.id for node in ast.walk(tree) if isinstance(node, ast.Name)}
            for node in ast.walk(tree):
                if isinstance(node, ast.ImportFrom):
                    for alias in node.names:
                        self.assertIn(alias.name, used, name)

    def test_no_circles(self):
        ways = {}
        for name, tree in trees().items():
            ways[name[:-3]] = [node.module.split(".")[1] for node in ast.walk(tree)
                               if isinstance(node, ast.ImportFrom) and node.module not in LIBRARY]
        done = set()
        while len(done) < len(ways):
            free = [name for name in ways if name not in done and set(ways[name]) <= done]
            self.assertTrue(free, "files import from each other")
            done.update(free)

    def test_module_level(self):
        for name, tree in trees().items():
            above = []
            for node in tree.body:
                if isinstance(node, ast.FunctionDef):
                    above.append(node.name)
                if isinstance(node, ast.Expr):
                    self.assertIsInstance(node.value, ast.Constant, name)
                elif isinstance(node, ast.Assign):
                    self.assertEqual(len(node.targets), 1)
                    self.assertIsInstance(node.targets[0], ast.Name)
                    self.assertTrue(is_plain(node.value) or is_table(node.value, above), (name, node.lineno))
                else:
                    self.assertIsInstance(node, (ast.ImportFrom, ast.FunctionDef, ast.ClassDef), name)

    def test_statements_and_expressions(self):
        allowed = (ast.Assign, ast.AugAssign, ast.If, ast.While, ast.For, ast.Return, ast.Raise, ast.Expr,
                   ast.Continue, ast.Break, ast.Pass, ast.FunctionDef, ast.ClassDef, ast.ImportFrom, ast.Try, ast.With)
        barred = (ast.GeneratorExp, ast.Lambda, ast.NamedExpr, ast.Await, ast.YieldFrom, ast.Div, ast.MatMult,
                  ast.SetComp)
        for name, tree in trees().items():
            for node in ast.walk(tree):
                place = (name, getattr(node, "lineno", None))
                if isinstance(node, ast.stmt):
                    self.assertIsInstance(node, allowed, place)
                self.assertNotIsInstance(node, barred, place)
                if isinstance(node, ast.Constant):
                    self.assertIsInstance(node.value, (int, str, type(None)), place)
                if isinstance(node, ast.BinOp) and isinstance(node.op, ast.Pow):
                    self.assertIsInstance(node.right, ast.Constant, place)
                    self.assertIn(node.right.value, range(65), place)
                if isinstance(node, ast.AugAssign):
                    self.assertIsInstance(node.op, ast.Add, place)
                    self.assertIsInstance(node.value, ast.Constant, place)
                if isinstance(node, ast.Compare):
                    for op, right in zip(node.ops, node.comparators):
                        if isinstance(op, (ast.Is, ast.IsNot)):
                            self.assertIsInstance(right, ast.Constant, place)
                if isinstance(node, ast.Raise):
                    self.assertIsInstance(node.exc, ast.Call, place)

    def test_no_annotations_and_plain_defaults(self):
        for name, tree in trees().items():
            for node in functions(tree):
                told = [node.returns] + [arg.annotation for arg in ast.walk(node) if isinstance(arg, ast.arg)]
                self.assertEqual([one for one in told if one is not None], [], name)
                for default in node.args.defaults + [one for one in node.args.kw_defaults if one is not None]:
                    self.assertTrue(is_plain(default), name)
                self.assertEqual(node.args.posonlyargs, [])

    def test_iterated_at_once(self):
        takers = ("list", "tuple", "dict", "sorted", "sum", "any", "all", "enumerate", "zip")
        for name, tree in trees().items():
            kept = parents(tree)
            for node in ast.walk(tree):
                if not is_call_of(node, "range", "zip", "enumerate", "reversed"):
                    continue
                around = kept[node]
                fits = isinstance(around, (ast.For, ast.comprehension)) or is_call_of(around, *takers)
                self.assertTrue(fits, (name, node.lineno))

    def test_sets(self):
        for name, tree in trees().items():
            kept = parents(tree)
            for node in ast.walk(tree):
                self.assertNotIsInstance(node, ast.Set, name)
                if not is_call_of(node, "set"):
                    continue
                around = kept[node]
                while isinstance(around, ast.BinOp):
                    around = kept[around]
                fits = is_call_of(around, "sorted", "len") or isinstance(around, (ast.Compare, ast.Assign))
                self.assertTrue(fits, (name, node.lineno))

    def test_lists_are_given_to_what_counts(self):
        for name, tree in trees().items():
            for node in ast.walk(tree):
                if is_call_of(node, "any", "all", "min", "max", "sum", "sorted"):
                    for arg in node.args:
                        self.assertNotIsInstance(arg, ast.GeneratorExp, name)

    def test_stars_stand_over_names(self):
        for name, tree in trees().items():
            for node in ast.walk(tree):
                if isinstance(node, ast.Call):
                    for arg in node.args:
                        if isinstance(arg, ast.Starred):
                            self.assertIsInstance(arg.value, (ast.Name, ast.Attribute), (name, node.lineno))
                elif isinstance(node, ast.Starred):
                    self.assertFalse(is_call_of(node.value, "range", "zip", "enumerate"), (name, node.lineno))


    def test_what_stands_behind_a_star(self):
        properties = {node.name for tree in trees().values() for node in functions(tree) if "property" in decorators(node)}
        for name, tree in trees().items():
            for node in ast.walk(tree):
                if not isinstance(node, ast.Call):
                    continue
                stars = [at for at, arg in enumerate(node.args) if isinstance(arg, ast.Starred)]
                doubles = [word for word in node.keywords if word.arg is None]
                if stars or doubles:
                    behind = node.args[stars[0] + 1:] if stars else node.args
                    told = [arg for arg in behind if not isinstance(arg, ast.Starred)]
                    told += [word.value for word in node.keywords]
                    self.assertTrue(all(is_simple(one, properties) for one in told), (name, node.lineno))
                    self.assertLessEqual(len(node.keywords) if doubles else 0, 1, (name, node.lineno))

    def test_methods_are_called_where_they_stand(self):
        methods = {node.name for tree in trees().values() for box in classes(tree) for node in box.body
                   if isinstance(node, ast.FunctionDef) and set(decorators(node)) <= {"staticmethod", "classmethod"}}
        for name, tree in trees().items():
            kept = parents(tree)
            for node in ast.walk(tree):
                if isinstance(node, ast.Attribute) and node.attr in methods:
                    around = kept[node]
                    self.assertTrue(isinstance(around, ast.Call) and around.func is node, (name, node.lineno))

    def test_no_star_in_an_index(self):
        for name, tree in trees().items():
            for node in ast.walk(tree):
                if isinstance(node, ast.Subscript):
                    for inner in ast.walk(node.slice):
                        self.assertNotIsInstance(inner, ast.Starred, (name, node.lineno))

    def test_what_is_walked_is_not_changed(self):
        for name, tree in trees().items():
            for node in functions(tree):
                names = aliases(node)
                for loop in ast.walk(node):
                    if isinstance(loop, ast.For):
                        over = set(walked(loop.iter))
                        # A name that ever stands for what is walked counts as that.
                        over |= {one for pair in names if set(pair) & over for one in pair}
                        self.assertEqual(over & set(changed_in(loop.body)), set(), (name, loop.lineno))

    def test_tables_are_only_read(self):
        for name, tree in trees().items():
            kept = parents(tree)
            tables = [one.targets[0].id for other in trees().values() for one in other.body
                      if isinstance(one, ast.Assign) and isinstance(one.value, (ast.Dict, ast.List))]
            for node in ast.walk(tree):
                if isinstance(node, ast.Name) and node.id in tables and isinstance(node.ctx, ast.Load):
                    around = kept[node]
                    reads = isinstance(around, (ast.Subscript, ast.Compare))
                    asks = isinstance(around, ast.Attribute) and around.attr == "get"
                    self.assertTrue(reads or asks, (name, node.lineno))

    def test_generators(self):
        made = [(name, node) for name, tree in trees().items() for node in functions(tree) if is_generator(node)]
        words = [node.name for _, node in made]
        self.assertEqual(words, [node.name for tree in trees().values() for node in functions(tree)
                                 if node.name in words])
        self.assertEqual(set(words) & METHODS, set())
        for name, node in made:
            self.assertEqual(decorators(node), [], name)
            for inner in ast.walk(node):
                self.assertNotIsInstance(inner, (ast.Try, ast.With), name)
                self.assertFalse(isinstance(inner, ast.Return) and inner.value is not None, name)
        takers = ("list", "tuple", "dict", "sorted", "sum", "any", "all", "enumerate", "zip")
        for name, tree in trees().items():
            kept = parents(tree)
            for node in ast.walk(tree):
                if not isinstance(node, ast.Call):
                    continue
                if (node.func.attr if isinstance(node.func, ast.Attribute) else node.func.id) in words:
                    around = kept[node]
                    self.assertTrue(isinstance(around, (ast.For, ast.comprehension)) or is_call_of(around, *takers))

    def test_handlers_name_own_errors(self):
        own = {node.name for node in classes(trees()["errors.py"])}
        for name, tree in trees().items():
            for node in ast.walk(tree):
                if isinstance(node, ast.ExceptHandler):
                    told = node.type.elts if isinstance(node.type, ast.Tuple) else [node.type]
                    self.assertLessEqual({one.id for one in told}, own, name)
                if isinstance(node, ast.Try):
                    self.assertEqual(node.finalbody, [], name)

    def test_blocks(self):
        for name, tree in trees().items():
            boxes = {node.name for tree in trees().values() for node in classes(tree)
                     if "__enter__" in [one.name for one in node.body if isinstance(one, ast.FunctionDef)]}
            for node in ast.walk(tree):
                if isinstance(node, ast.With):
                    self.assertTrue(all(is_call_of(item.context_expr, *boxes) for item in node.items), name)
                if isinstance(node, ast.FunctionDef) and node.name == "__exit__":
                    for row in node.body:
                        self.assertIsInstance(row, ast.Assign)
                        self.assertIsInstance(row.targets[0], ast.Attribute)
                        self.assertIsInstance(row.value, (ast.Attribute, ast.Name))


class TestClasses(unittest.TestCase):
    def test_double_underscores_are_listed(self):
        for name, tree in trees().items():
            for box in classes(tree):
                self.assertEqual(box.decorator_list, [])
                told = [node.name for node in box.body
                        if isinstance(node, ast.FunctionDef) and decorators(node) != ["setter"]]
                self.assertEqual(len(told), len(set(told)), (name, box.name))
                self.assertLessEqual({word for word in told if word.startswith("__")}, DUNDERS)

    def test_what_has_items_has_iter(self):
        for name, tree in trees().items():
            for box in classes(tree):
                told = {node.name for node in box.body if isinstance(node, ast.FunctionDef)}
                if "__getitem__" in told:
                    self.assertIn("__iter__", told, (name, box.name))

    def test_decorators(self):
        for name, tree in trees().items():
            kept = parents(tree)
            for node in functions(tree):
                told = decorators(node)
                self.assertLessEqual(len(told), 1)
                self.assertLessEqual(set(told), {"property", "staticmethod", "classmethod", "setter"})
                if told:
                    self.assertIsInstance(kept[node], ast.ClassDef)
                if told == ["setter"]:
                    self.assertEqual(node.decorator_list[0].value.id, node.name)
                    before = kept[node].body[kept[node].body.index(node) - 1]
                    self.assertEqual((before.name, decorators(before)), (node.name, ["property"]))

    def test_forms_of_double_underscores(self):
        for name, tree in trees().items():
            for node in functions(tree):
                place = (name, node.lineno)
                if node.name in ("__eq__", "__str__", "__len__", "__bool__", "__iter__"):
                    for inner in ast.walk(node):
                        self.assertNotIsInstance(inner, (ast.Assign, ast.AugAssign), place)
                if node.name in ("__str__", "__len__", "__bool__"):
                    self.assertIsInstance(node.body[-1], ast.Return, place)
                if node.name == "__iter__":
                    self.assertEqual(len(node.body), 1, place)
                for inner in ast.walk(node):
                    if isinstance(inner, ast.Return) and node.name in ("__str__", "__repr__"):
                        self.assertTrue(is_text(inner.value), place)
                    if isinstance(inner, ast.Return) and node.name == "__len__":
                        self.assertTrue(is_call_of(inner.value, "len"), place)
                if node.name == "__init__":
                    self.assertFalse([one for one in ast.walk(node) if isinstance(one, ast.Return)], place)

    def test_operators_and_properties_store_nothing(self):
        plain = DUNDERS - {"__init__", "__call__", "__enter__", "__exit__", "__setitem__"}
        for name, tree in trees().items():
            for node in functions(tree):
                if node.name in plain or "property" in decorators(node):
                    for inner in ast.walk(node):
                        if isinstance(inner, (ast.Attribute, ast.Subscript)):
                            self.assertIsInstance(inner.ctx, ast.Load, (name, node.lineno))

    def test_what_operators_and_properties_call_changes_nothing(self):
        named, begun = named_functions()
        seen, ahead = set(), list(begun)
        while ahead:
            node = ahead.pop()
            if node in seen:
                continue
            seen.add(node)
            self.assertEqual(changes_in(node), [], node.name)
            for call in [one for one in ast.walk(node) if isinstance(one, ast.Call)]:
                word = call.func.id if isinstance(call.func, ast.Name) else call.func.attr
                ahead.extend(named.get(word, []))
        self.assertGreater(len(seen), 100)


def is_text(node):
    """Whether an expression is a string, an f-string, str(..), repr(..) or the join of a literal."""
    if isinstance(node, ast.JoinedStr) or is_call_of(node, "str", "repr"):
        return True
    if isinstance(node, ast.Constant):
        return isinstance(node.value, str)
    if not isinstance(node, ast.Call) or not isinstance(node.func, ast.Attribute) or node.func.attr != "join":
        return False
    return isinstance(node.func.value, ast.Constant)


def named_functions():
    """The functions by the names by which they are called, and those that operators and properties are."""
    named, begun = {}, []
    plain = DUNDERS - {"__init__", "__call__", "__enter__", "__exit__", "__setitem__"}
    for tree in trees().values():
        for box in classes(tree):
            for node in functions(box):
                if node.name == "__init__":
                    named.setdefault(box.name, []).append(node)
        for node in functions(tree):
            named.setdefault(node.name, []).append(node)
            if node.name in plain or "property" in decorators(node):
                begun.append(node)
    return named, begun


def changes_in(node):
    """The lines of a function that change what it did not create itself."""
    own = {"self"} if node.name == "__init__" else set()
    for one in ast.walk(node):
        if isinstance(one, ast.Assign) and isinstance(one.value, (ast.List, ast.ListComp, ast.Dict)):
            own.update(target.id for target in one.targets if isinstance(target, ast.Name))
        if isinstance(one, ast.Assign) and isinstance(one.value, ast.Tuple):
            for target, value in zip(getattr(one.targets[0], "elts", []), one.value.elts):
                if isinstance(value, ast.List):
                    own.add(target.id)
    found = []
    for one in ast.walk(node):
        changed = None
        if isinstance(one, (ast.Attribute, ast.Subscript)) and not isinstance(one.ctx, ast.Load):
            changed = one.value
        elif isinstance(one, ast.Call) and isinstance(one.func, ast.Attribute):
            if one.func.attr in ("append", "extend", "insert", "pop", "remove", "reverse", "sort", "clear", "update"):
                changed = one.func.value
        if changed is not None and not (isinstance(changed, ast.Name) and changed.id in own):
            found.append(one.lineno)
    return found


if __name__ == "__main__":
    unittest.main()
