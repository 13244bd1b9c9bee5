"""The rules of LANGUAGE.md that a script can see, for every file of the package."""

import ast
import builtins
import os
import re
import unittest
import warnings

FOLDER = os.path.join(os.path.dirname(os.path.dirname(os.path.abspath(__file__))), "handsroom")
FILES = sorted(os.listdir(FOLDER))
SOURCES = [name for name in FILES if name.endswith(".py")]
BUILTINS = (
    "len range enumerate zip min max sum abs sorted reversed int str bool bytes list tuple dict set frozenset "
    "isinstance ord repr any all divmod Exception ValueError TypeError KeyError IndexError LookupError "
    "ZeroDivisionError ArithmeticError OverflowError RuntimeError NotImplementedError AttributeError "
    "StopIteration NotImplemented iter next map super property staticmethod classmethod").split()
METHODS = (
    "append clear copy count endswith extend find get index insert isalnum isalpha isdigit islower isspace isupper "
    "items join keys ljust lower lstrip partition pop remove replace reverse rfind rjust rpartition rsplit rstrip "
    "setdefault split splitlines startswith strip update upper values zfill bit_length __init__").split()
CHANGING = "append clear extend insert pop remove reverse setdefault update sort add discard".split()
DUNDERS = (
    "__init__ __eq__ __repr__ __str__ __len__ __enter__ __exit__ __call__ __iter__ __lt__ __le__ __gt__ __ge__ "
    "__ne__ __add__ __sub__ __mul__ __floordiv__ __mod__ __pow__ __and__ __or__ __xor__ __lshift__ __rshift__ "
    "__neg__ __pos__ __invert__ __abs__ __bool__ __contains__ __getitem__ __setitem__").split()
OPERATORS = [name for name in DUNDERS if name not in ("__init__", "__enter__", "__exit__", "__call__", "__iter__")]
BARRED = (
    "register mro elements open input law version_info with_traceback add_note attrgetter breakpoint builtins compile "
    "copyright credits delattr dir eval exec exit gc getattr globals hasattr help id importlib license locals "
    "methodcaller os quit setattr type vars sys typing enum Enum Flag Generic Protocol ABC namedtuple").split()
ATTRIBUTES = (
    "items keys values pop update append clear extend insert remove reverse setdefault sort args encode decode hex "
    "fromhex format format_map mro as_integer_ratio bit_count conjugate from_bytes is_integer to_bytes real imag "
    "numerator denominator").split()
NODES = (
    ast.Module, ast.Expr, ast.Assign, ast.AugAssign, ast.If, ast.While, ast.For, ast.Return, ast.Break, ast.Continue,
    ast.Pass, ast.Raise, ast.Try, ast.ExceptHandler, ast.FunctionDef, ast.ClassDef, ast.ImportFrom, ast.alias,
    ast.arguments, ast.arg, ast.keyword, ast.Name, ast.Load, ast.Store, ast.Constant, ast.Tuple, ast.List, ast.Dict,
    ast.BinOp, ast.Add, ast.Sub, ast.Mult, ast.FloorDiv, ast.Mod, ast.BoolOp, ast.And, ast.Or, ast.UnaryOp, ast.Not,
    ast.USub, ast.Compare, ast.Eq, ast.NotEq, ast.Lt, ast.LtE, ast.Gt, ast.GtE, ast.Is, ast.IsNot, ast.In, ast.NotIn,
    ast.IfExp, ast.Call, ast.Attribute, ast.Subscript, ast.Slice, ast.ListComp, ast.DictComp, ast.comprehension,
    ast.Starred, ast.JoinedStr, ast.FormattedValue, ast.Yield, ast.Lambda,
)


def source(name):
    with open(os.path.join(FOLDER, name), encoding="utf-8", newline="") as told:
        return told.read()


TREES = {}


def trees():
    if not TREES:
        TREES.update({name: ast.parse(source(name)) for name in SOURCES})
    return TREES


def nodes(kind):
    for name, tree in trees().items():
        for node in ast.walk(tree):
            if isinstance(node, kind):
                yield name, node


def functions():
    """The triples (file, class or None, function) of the package."""
    for name, tree in trees().items():
        for node in tree.body:
            if isinstance(node, ast.FunctionDef):
                yield name, None, node
            if isinstance(node, ast.ClassDef):
                for inner in node.body:
                    if isinstance(inner, ast.FunctionDef):
                        yield name, node, inner


def classes():
    return {node.name: node for _, node in nodes(ast.ClassDef)}


def targets(function):
    """The names that a function binds, its parameters included."""
    told = function.args
    found = [one.arg for one in told.posonlyargs + told.args + told.kwonlyargs + [told.vararg, told.kwarg] if one]
    for node in ast.walk(function):
        if isinstance(node, ast.Name) and isinstance(node.ctx, ast.Store):
            found.append(node.id)
        if isinstance(node, ast.ExceptHandler) and node.name:
            found.append(node.name)
    return found


class FileTest(unittest.TestCase):
    def test_files(self):
        self.assertLessEqual(len(FILES), 100)
        self.assertIn("__init__.py", FILES)
        for name in FILES:
            if name != "__pycache__":
                self.assertRegex(name, r"\A(__init__|[a-z][a-z0-9_]*)\.py\Z")
                self.assertNotIn(name[:-3], dir(builtins) + BARRED + ["test", "tests", "site", "heapq", "math"])

    def test_sizes(self):
        for name in SOURCES:
            lines = source(name).split("\n")
            self.assertLessEqual(len(lines) - 1, 399, name)
            self.assertLessEqual(max(len(line) for line in lines), 120, name)
        for name, _, function in functions():
            self.assertLessEqual(function.end_lineno - function.lineno + 1, 40, (name, function.name))

    def test_characters(self):
        for name in SOURCES:
            self.assertRegex(source(name), r"\A[ -~\n]*\Z", name)
            self.assertFalse(re.search(r"_wall|_WallAttr|dataclass|overload|contextmanager", source(name)), name)
            self.assertFalse(re.search(r"\(type\)|Meta|metaclass=", source(name)), name)

    def test_no_warning(self):
        with warnings.catch_warnings():
            warnings.simplefilter("error")
            for name in SOURCES:
                compile(source(name), name, "exec")

    def test_only_allowed_syntax(self):
        for name, node in nodes(ast.AST):
            self.assertIsInstance(node, NODES, (name, getattr(node, "lineno", None)))

    def test_strings(self):
        for name, node in nodes(ast.Constant):
            self.assertIn(type(node.value), (int, str, bool, type(None)), (name, node.lineno))
            if isinstance(node.value, str):
                self.assertNotIn("%", node.value, (name, node.lineno))
                self.assertFalse(node.value.endswith(("._", ".__")), (name, node.lineno))
                self.assertNotIn("__", node.value, (name, node.lineno))
        for name in SOURCES:
            self.assertNotRegex(source(name), r"\\[^n\"'\\]", name)


class ImportTest(unittest.TestCase):
    def test_imports(self):
        bound = {}
        for name, tree in trees().items():
            bound[name] = [node.name for node in tree.body if isinstance(node, (ast.FunctionDef, ast.ClassDef))]
            bound[name] += [node.targets[0].id for node in tree.body if isinstance(node, ast.Assign)]
        for name, tree in trees().items():
            at_top = True
            for at, node in enumerate(tree.body):
                if isinstance(node, ast.ImportFrom):
                    self.assertTrue(at_top, name)
                    self.assertEqual(node.level, 0)
                    self.assertRegex(node.module, r"\Ahandsroom\.[a-z]+\Z")
                    for alias in node.names:
                        self.assertIsNone(alias.asname)
                        self.assertIn(alias.name, bound[node.module.partition(".")[2] + ".py"], (name, alias.name))
                elif at > 0:
                    at_top = False
            inner = [node for node in ast.walk(tree) if isinstance(node, (ast.Import, ast.ImportFrom))]
            self.assertEqual(inner, [node for node in tree.body if isinstance(node, ast.ImportFrom)])

    def test_init_binds_nothing(self):
        self.assertEqual([type(node) for node in trees()["__init__.py"].body], [ast.Expr])

    def test_imported_names_are_used(self):
        for name, tree in trees().items():
            used = [node.id for node in ast.walk(tree) if isinstance(node, ast.Name)]
            for node in tree.body:
                if isinstance(node, ast.ImportFrom):
                    for alias in node.names:
                        self.assertIn(alias.name, used, name)

    def test_no_ring_of_imports(self):
        imports = {name: [node.module.partition(".")[2] + ".py" for node in tree.body
                          if isinstance(node, ast.ImportFrom)] for name, tree in trees().items()}
        done = []
        while len(done) < len(imports):
            ready = [name for name in imports if name not in done and all(one in done for one in imports[name])]
            self.assertTrue(ready, [name for name in imports if name not in done])
            done += ready


class NameTest(unittest.TestCase):
    def test_module_level(self):
        for name, tree in trees().items():
            found = []
            for node in tree.body:
                self.assertIsInstance(node, (ast.Expr, ast.ImportFrom, ast.FunctionDef, ast.ClassDef, ast.Assign))
                if isinstance(node, ast.Expr):
                    self.assertIsInstance(node.value, ast.Constant, name)
                if isinstance(node, ast.ImportFrom):
                    found += [alias.name for alias in node.names]
                if isinstance(node, (ast.FunctionDef, ast.ClassDef)):
                    found.append(node.name)
                if isinstance(node, ast.Assign):
                    self.assertEqual(len(node.targets), 1)
                    self.assertIsInstance(node.targets[0], ast.Name)
                    found.append(node.targets[0].id)
                    ast.literal_eval(node.value)
            self.assertEqual(len(found), len(set(found)), name)

    def test_no_binding_hides_another(self):
        for name, tree in trees().items():
            taken = [node.name for node in tree.body if isinstance(node, ast.ClassDef)]
            for node in tree.body:
                if isinstance(node, ast.ImportFrom):
                    taken += [alias.name for alias in node.names]
            for node in ast.walk(tree):
                if isinstance(node, ast.FunctionDef):
                    for target in targets(node):
                        self.assertNotIn(target, taken, (name, node.name))
                        self.assertNotIn(target, dir(builtins), (name, node.name))
                        self.assertNotIn(target, BARRED, (name, node.name))
                        self.assertRegex(target, r"\A(_|_?[A-Za-z][A-Za-z0-9_]*)\Z")
                if isinstance(node, (ast.FunctionDef, ast.ClassDef)):
                    self.assertNotIn(node.name, BARRED, name)
                if isinstance(node, ast.Attribute):
                    self.assertNotIn(node.attr, BARRED, (name, node.lineno))

    def test_private_names_that_are_not_used(self):
        barred = r"\A(_wall|_pe_|_dcw_|_enum_|_cm_|_twin_re_|_lay_|_law_|_stub_|_sre|_WallAttr)" \
                 r"|\A(_cold|_tuplegetter|_outside|_record|_written_out|_member_names)[0-9_]*\Z"
        for name, node in nodes((ast.Name, ast.FunctionDef, ast.ClassDef, ast.arg, ast.Attribute)):
            for part in ("id", "name", "arg", "attr"):
                self.assertNotRegex(getattr(node, part, ""), barred, (name, node.lineno))

    def test_words_that_do_not_occur(self):
        words = ("typing typing_extensions enum Enum IntEnum StrEnum Flag IntFlag Generic Protocol ABC ABCMeta namedtuple "
                 "NamedTuple TypedDict TYPE_CHECKING abstractmethod type keys").split()
        for name in SOURCES:
            plain = re.sub(r'""".*?"""|#[^\n]*', "", source(name), flags=re.S)
            for word in words:
                self.assertNotRegex(plain, rf"\b{word}\b", name)

    def test_underscore_is_never_read(self):
        for name, node in nodes(ast.Name):
            self.assertFalse(node.id == "_" and isinstance(node.ctx, ast.Load), (name, node.lineno))

    def test_only_allowed_builtins(self):
        for name, tree in trees().items():
            known = BUILTINS + [node.name for node in tree.body if isinstance(node, (ast.FunctionDef, ast.ClassDef))]
            for node in tree.body:
                if isinstance(node, ast.ImportFrom):
                    known += [alias.name for alias in node.names]
                if isinstance(node, ast.Assign):
                    known.append(node.targets[0].id)
            for _, function in [(None, node) for node in ast.walk(tree) if isinstance(node, ast.FunctionDef)]:
                local = targets(function) + [one.arg for node in ast.walk(function) if isinstance(node, ast.Lambda)
                                             for one in node.args.args]
                for node in ast.walk(function):
                    if isinstance(node, ast.Name):
                        self.assertIn(node.id, known + local, (name, node.lineno))

    def test_module_values_are_only_read(self):
        for name, tree in trees().items():
            values = [node.targets[0].id for node in tree.body if isinstance(node, ast.Assign)]
            for node in ast.walk(tree):
                if isinstance(node, ast.Attribute) and isinstance(node.value, ast.Name) and node.value.id in values:
                    self.assertNotIn(node.attr, CHANGING, (name, node.lineno))


class ClassTest(unittest.TestCase):
    def methods(self):
        return [(owner.name, function) for _, owner, function in functions() if owner is not None]

    def attributes(self):
        """The pairs (class, attribute) that methods assign through self."""
        found = []
        for owner, function in self.methods():
            for node in ast.walk(function):
                if isinstance(node, ast.Attribute) and isinstance(node.ctx, ast.Store):
                    self.assertEqual(node.value.id, "self", (owner, node.lineno))
                    found.append((owner, node.attr))
        return found

    def test_methods(self):
        for owner, function in self.methods():
            if function.name.startswith("__"):
                self.assertIn(function.name, DUNDERS, owner)
            for decorator in function.decorator_list:
                self.assertIn(decorator.id, ("property", "staticmethod", "classmethod"))
            self.assertNotIn(function.name, ATTRIBUTES + dir(str) if not function.name.startswith("__") else ())
        for owner in classes():
            names = [function.name for one, function in self.methods() if one == owner]
            self.assertEqual(len(names), len(set(names)), owner)

    def test_functions_have_no_decorator_and_no_annotation(self):
        for name, owner, function in functions():
            if owner is None:
                self.assertEqual(function.decorator_list, [], name)
            self.assertIsNone(function.returns)
            for node in ast.walk(function):
                self.assertFalse(isinstance(node, ast.arg) and node.annotation, name)

    def test_no_name_is_a_method_and_an_attribute(self):
        # The document wants one such pair of names, the ring of a machine and that of a verdict, in classes apart.
        methods = {function.name: (owner, function) for owner, function in self.methods()}
        pairs = [(methods[attribute][0], owner, attribute) for owner, attribute in self.attributes() if attribute in methods]
        self.assertEqual(pairs, [("Machine", "Verdict", "ring")])
        self.assertEqual(methods["ring"][1].decorator_list, [])
        for owner, attribute in self.attributes():
            self.assertNotIn(attribute, ATTRIBUTES, owner)
            self.assertFalse(hasattr(str, attribute) or hasattr(dict, attribute) or hasattr(int, attribute), attribute)

    def test_no_method_is_read_off_a_class(self):
        """L18 asks for this where a name is a method and an attribute; so it is kept to everywhere."""
        own = list(classes())
        for name, node in nodes(ast.Attribute):
            if isinstance(node.value, ast.Name):
                self.assertNotIn(node.value.id, own, (name, node.lineno))

    def test_attributes_that_are_read_are_assigned(self):
        assigned = {attribute for _, attribute in self.attributes()}
        methods = {function.name for _, function in self.methods()}
        values = {node.targets[0].id for owner in classes().values() for node in owner.body
                  if isinstance(node, ast.Assign)}
        for name, node in nodes(ast.Attribute):
            self.assertIn(node.attr, assigned | methods | values | set(METHODS), (name, node.lineno))

    def test_operators_that_need_others(self):
        for owner in classes():
            names = {function.name for one, function in self.methods() if one == owner}
            if "__getitem__" in names:
                self.assertIn("__iter__", names, owner)
            # Without an order of its own no class needs the forms that orders ask for.
            self.assertFalse(names & {"__lt__", "__le__", "__gt__", "__ge__", "__ne__", "__call__", "__bool__"}, owner)

    def test_supers(self):
        for owner, function in self.methods():
            for node in ast.walk(function):
                for child in ast.iter_child_nodes(node):
                    if isinstance(child, ast.Call) and getattr(child.func, "id", "") == "super":
                        self.assertEqual(child.args, [], owner)
                        self.assertIsInstance(node, ast.Attribute)
                        self.assertTrue(node.attr == function.name == "__init__" or not node.attr.startswith("_"), owner)

    def test_error_classes(self):
        tree = trees()["errors.py"]
        for node in tree.body:
            if isinstance(node, ast.ClassDef):
                base = "ValueError" if node.name == "HandsError" else "HandsError"
                self.assertEqual([one.id for one in node.bases], [base])

    def test_fixed_forms(self):
        for owner, function in self.methods():
            last = function.body[-1]
            if function.name == "__len__":
                self.assertEqual(last.value.func.id, "len")
            if function.name == "__iter__":
                self.assertEqual(len(function.body), 1)
                self.assertRegex(ast.unparse(last), r"\Areturn iter\(self\.[a-z_]+\)\Z")
            if function.name == "__init__":
                self.assertFalse([node for node in ast.walk(function) if isinstance(node, ast.Return)])


class StatementTest(unittest.TestCase):
    def test_lambdas_of_one_line(self):
        for name in SOURCES:
            for line in source(name).split("\n"):
                self.assertLessEqual(line.count("lambda"), 1, name)

    def test_builtins_with_keywords(self):
        allowed = {"sorted": ("key", "reverse"), "min": ("key", "default"), "max": ("key", "default"), "sum": ("start",),
                   "enumerate": ("start",), "zip": ("strict",)}
        for name, node in nodes(ast.Call):
            if isinstance(node.func, ast.Name) and node.func.id in dir(builtins):
                for keyword in node.keywords:
                    self.assertIn(keyword.arg, allowed.get(node.func.id, ()), (name, node.lineno))
            if isinstance(node.func, ast.Attribute) and node.func.attr in METHODS:
                self.assertEqual(node.keywords, [], (name, node.lineno))

    def test_comparisons_with_is(self):
        for name, node in nodes(ast.Compare):
            for sign, other in zip(node.ops, node.comparators):
                if isinstance(sign, (ast.Is, ast.IsNot)):
                    self.assertIsInstance(other, ast.Constant, (name, node.lineno))
                    self.assertIn(other.value, (None, True, False))

    def test_caught_errors(self):
        own = list(classes())
        for name, node in nodes(ast.ExceptHandler):
            self.assertIn(node.type.id, own, name)

    def test_raised_errors(self):
        own = list(classes())
        for name, node in nodes(ast.Raise):
            self.assertIsInstance(node.exc, ast.Call, name)
            self.assertIn(node.exc.func.id, own)
            self.assertFalse([one for one in node.exc.args if isinstance(one, ast.Starred)])

    def test_no_comprehension_over_a_set(self):
        for name, node in nodes(ast.Call):
            if isinstance(node.func, ast.Name):
                self.assertNotIn(node.func.id, ("set", "frozenset", "chr", "print", "bytes"), (name, node.lineno))

    def test_views_are_iterated_at_once(self):
        for name, tree in trees().items():
            for node in ast.walk(tree):
                for child in ast.iter_child_nodes(node):
                    if isinstance(child, ast.Call) and isinstance(child.func, ast.Name) and child.func.id in (
                            "zip", "enumerate", "reversed", "range"):
                        fits = isinstance(node, (ast.For, ast.comprehension))
                        fits = fits or isinstance(node, ast.Call) and isinstance(node.func, ast.Name) and (
                            node.func.id in ("list", "tuple", "dict", "sorted", "sum", "enumerate", "zip"))
                        self.assertTrue(fits, (name, child.lineno))

    def test_loops_do_not_change_what_they_iterate_over(self):
        for name, node in nodes(ast.For):
            over = {ast.unparse(one) for one in ast.walk(node.iter) if isinstance(one, (ast.Name, ast.Attribute))}
            over -= {"self", "enumerate", "zip", "range", "list", "len"}
            for inner in node.body:
                for one in ast.walk(inner):
                    if isinstance(one, ast.Call) and isinstance(one.func, ast.Attribute) and one.func.attr in CHANGING:
                        self.assertNotIn(ast.unparse(one.func.value), over, (name, one.lineno))
                    if isinstance(one, ast.Subscript) and isinstance(one.ctx, ast.Store):
                        self.assertNotIn(ast.unparse(one.value), over, (name, one.lineno))

    def test_stars_stand_beside_plain_values(self):
        plain = (ast.Name, ast.Attribute, ast.Constant, ast.Tuple)
        for name, node in nodes(ast.Call):
            stars = [at for at, one in enumerate(node.args) if isinstance(one, ast.Starred)]
            if stars:
                for one in node.args[stars[0]:]:
                    value = one.value if isinstance(one, ast.Starred) else one
                    self.assertIsInstance(value, plain, (name, node.lineno))
                    if isinstance(value, ast.Attribute):
                        self.assertIsInstance(value.value, ast.Name, (name, node.lineno))
                for keyword in node.keywords:
                    self.assertIsInstance(keyword.value, plain, (name, node.lineno))
                self.assertNotEqual(getattr(node.func, "attr", ""), "__init__")

    def test_one_use_of_a_generator(self):
        generators = [function.name for _, _, function in functions()
                      if any(isinstance(node, (ast.Yield, ast.YieldFrom)) for node in ast.walk(function))]
        self.assertEqual(sorted(generators), ["each_deed", "marked_records", "records", "request_cycles", "ring_gaps"])
        for name, tree in trees().items():
            for node in ast.walk(tree):
                for child in ast.iter_child_nodes(node):
                    if isinstance(child, ast.Name) and child.id in generators:
                        self.assertIsInstance(node, ast.Call, (name, child.lineno))
                    if isinstance(child, ast.Call) and isinstance(child.func, ast.Name) and child.func.id in generators:
                        self.assertIsInstance(node, (ast.For, ast.comprehension, ast.Call), (name, child.lineno))
                        for told in child.args:
                            self.assertIsInstance(told, (ast.Name, ast.Attribute))


class PurityTest(unittest.TestCase):
    """L5: what an operator, a property or one of their kin runs changes nothing."""

    def reached(self):
        """The functions that operators and properties run, with those that make the objects they make."""
        by_name = {}
        for entry in functions():
            _, owner, function = entry
            name = owner.name if function.name == "__init__" else function.name
            by_name.setdefault(name, []).append(entry)
        pending = [name for name, entries in by_name.items() if name in OPERATORS or any(
            getattr(one, "id", "") == "property" for _, _, function in entries for one in function.decorator_list)]
        found = {}
        while pending:
            name = pending.pop()
            if name not in found:
                found[name] = by_name.get(name, [])
                calls = [node.func for _, _, function in found[name] for node in ast.walk(function)
                         if isinstance(node, ast.Call)]
                pending += [call.id if isinstance(call, ast.Name) else call.attr for call in calls]
        return [entry for entries in found.values() for entry in entries]

    def test_operators_change_nothing(self):
        reached = self.reached()
        self.assertIn("first_fault", [function.name for _, _, function in reached])
        self.assertIn("__init__", [function.name for _, _, function in reached])
        for name, owner, function in reached:
            made = [node.targets[0].id for node in ast.walk(function) if isinstance(node, ast.Assign)
                    and isinstance(node.targets[0], ast.Name) and isinstance(node.value, (ast.List, ast.ListComp))]
            for node in ast.walk(function):
                told = (name, function.name, getattr(node, "lineno", None))
                if isinstance(node, ast.Attribute) and isinstance(node.ctx, ast.Store):
                    self.assertEqual((function.name, node.value.id), ("__init__", "self"), told)
                self.assertFalse(isinstance(node, ast.Subscript) and isinstance(node.ctx, ast.Store), told)
                self.assertFalse(isinstance(node, (ast.AugAssign, ast.Yield, ast.Delete)), told)
                if isinstance(node, ast.Call) and isinstance(node.func, ast.Attribute) and node.func.attr in CHANGING:
                    self.assertIn(ast.unparse(node.func.value), made, told)
                if isinstance(node, ast.Call) and isinstance(node.func, ast.Name):
                    self.assertNotIn(node.func.id, targets(function), told)


if __name__ == "__main__":
    unittest.main()
