"""Rules of shared/LANGUAGE.md that can be read off the files of the package."""

import ast
import builtins
import pathlib
import re
import unittest

PACKAGE = pathlib.Path(__file__).resolve().parent.parent / "latelands"
FILES = sorted(PACKAGE.rglob("*.py"))
LIBRARY = {"heapq": {"heappush", "heappop", "heapify", "heapreplace", "heappushpop"}}
BUILTINS = {
    "len", "range", "enumerate", "zip", "min", "max", "sum", "abs", "sorted", "reversed", "int", "str", "bool", "list",
    "tuple", "dict", "set", "isinstance", "ord", "repr", "any", "all", "divmod", "iter", "next", "map", "ValueError",
    "TypeError", "KeyError", "IndexError", "LookupError", "OverflowError", "RuntimeError", "NotImplemented",
    "classmethod", "staticmethod", "property", "super"}
DUNDERS = {"__init__", "__eq__", "__repr__", "__str__", "__len__", "__iter__", "__contains__", "__getitem__", "__enter__",
           "__exit__"}
BARRED = {"register", "mro", "elements", "open", "input", "law", "version_info", "with_traceback", "add_note"}
METHODS = set("""append clear copy count endswith extend find get index insert isalnum isalpha isdigit islower isspace
isupper items join keys ljust lower lstrip partition pop remove replace reverse rfind rjust rpartition rsplit rstrip
setdefault split splitlines startswith strip update upper values zfill bit_length add discard""".split())
# What the interface lists for the modules that are there.
INTERFACE = {
    "kinds": ["Kind", "Make", "Copy", "Give", "Jump", "is_name"],
    "machines": ["Machine"],
    "rows": ["is_operation", "is_row", "row_text", "read_row"],
    "codes": ["Code"],
    "ways": ["is_way", "ways", "way_to", "is_point", "points", "points_after", "points_before"],
    "landings": ["clash", "landings", "writer"],
    "values": ["value", "handed", "first_change"],
    "player": ["Player"],
    "alike": ["names", "stands_for", "name_before", "alike", "classes"],
    "alikecheck": ["shows_alike", "shows_unlike"],
    "judge": ["differences", "heard", "judge", "bad_gaps", "bad_pairs"],
    "judgecheck": ["shows_change", "shows_open"],
    "shut": ["least_shut"],
    "waiting": ["shortest_wait", "longest_wait"],
    "casecheck": ["shows_least", "shows_wait", "shows_cover"],
    "sides": ["same"],
    "sidecheck": ["shows_same", "shows_apart"],
    "webs": ["seen", "webs", "stretch", "conflicts"],
    "registers": ["fewest", "rename"],
    "registercheck": ["shows_fewest"],
    "opening": ["opened"],
    "mending": ["mended"],
    "listing": ["listing", "chart"],
    "desk": ["Desk"],
}
# The methods that the interface lists for classes.
CLASSES = {
    "machines": ("Machine", {"of", "kind", "__contains__", "__len__", "__eq__", "__repr__", "__str__", "read"}),
    "codes": ("Code", {"of", "next_rows", "rows_before", "delay_of", "entry", "with_row", "__len__", "__getitem__", "__eq__",
                       "__repr__", "__str__", "read"}),
    "player": ("Player", {"set_most", "go", "break_in", "sees", "undo", "trial", "on_trial", "twin", "__eq__", "__len__",
                          "__repr__"}),
    "desk": ("Desk", {"say", "say_all"}),
}


def tree_of(path):
    return ast.parse(path.read_text())


def walk_all(kind):
    """All nodes of a kind, with the file in which they stand."""
    return [(path.name, node) for path in FILES for node in ast.walk(tree_of(path)) if isinstance(node, kind)]

CHANGING = {"append", "clear", "extend", "insert", "pop", "remove", "reverse", "setdefault", "update", "add", "discard",
            "sort"}
HEAPS = {"heappush", "heappop", "heapify", "heapreplace", "heappushpop"}


def place_of(node):
    """What is walked or changed, told by names: a name, or an attribute of one; an index is left out."""
    while isinstance(node, (ast.Subscript, ast.Starred)):
        node = node.value
    if isinstance(node, ast.Name):
        return node.id
    if isinstance(node, ast.Attribute):
        held = place_of(node.value)
        return None if held is None else f"{held}.{node.attr}"
    return None


def places_of(node):
    """All places that an expression may give: those of a choice, and what enumerate and the like walk."""
    if isinstance(node, ast.IfExp):
        return places_of(node.body) + places_of(node.orelse)
    if isinstance(node, ast.BoolOp):
        return [place for value in node.values for place in places_of(value)]
    if isinstance(node, ast.Call) and isinstance(node.func, ast.Name) and node.func.id in ("enumerate", "zip", "reversed"):
        return [place for value in node.args for place in places_of(value)]
    if isinstance(node, ast.Call) and isinstance(node.func, ast.Attribute) and node.func.attr in ("items", "keys", "values"):
        return places_of(node.func.value)
    return [place_of(node)] if place_of(node) is not None else []


def changed_in(nodes):
    """The places that these statements change."""
    found = set()
    for node in [inner for each in nodes for inner in ast.walk(each)]:
        if isinstance(node, ast.Call) and isinstance(node.func, ast.Attribute) and node.func.attr in CHANGING:
            found.add(place_of(node.func.value))
        if isinstance(node, ast.Call) and isinstance(node.func, ast.Name) and node.func.id in HEAPS:
            found.add(place_of(node.args[0]))
        if isinstance(node, ast.Subscript) and isinstance(node.ctx, (ast.Store, ast.Del)):
            found.add(place_of(node))
        if isinstance(node, ast.AugAssign):
            found.add(place_of(node.target))
    return found - {None}


def names_of_one_list(function):
    """For each place the places that an assignment makes one list with it."""
    same = {}
    for node in ast.walk(function):
        if isinstance(node, ast.Assign):
            for target in node.targets:
                for place in places_of(node.value):
                    joined = {place_of(target), place} | same.get(place, set()) | same.get(place_of(target), set())
                    for each in joined:
                        same[each] = same.get(each, set()) | joined
    return same


def walked_and_changed(function):
    """The places that a loop or comprehension of the function walks and changes."""
    same = names_of_one_list(function)
    found = set()
    for node in ast.walk(function):
        walked, inside = [], []
        if isinstance(node, ast.For):
            walked, inside = places_of(node.iter), node.body
        if isinstance(node, (ast.ListComp, ast.SetComp, ast.DictComp)):
            walked = [place for each in node.generators for place in places_of(each.iter)]
            inside = [node]
        changed = {name for place in changed_in(inside) for name in same.get(place, {place})}
        found |= {place for place in walked if place in changed}
    return found


class LanguageTest(unittest.TestCase):

    def test_the_folder_holds_plain_files_only(self):
        self.assertIn(PACKAGE / "__init__.py", FILES)
        for path in PACKAGE.rglob("*"):
            if "__pycache__" not in path.parts:
                self.assertTrue(path in FILES, path)
                self.assertRegex(path.name, r"^[a-z_]+\.py$")
        self.assertLessEqual(len(FILES), 100)

    def test_sizes_and_characters(self):
        for path in FILES:
            lines = path.read_text().split("\n")
            self.assertLessEqual(len(lines), 399, path)
            for line in lines:
                self.assertLessEqual(len(line), 120, line)
                self.assertRegex(line, r"^[ -~]*$")
        for name, function in walk_all(ast.FunctionDef):
            self.assertLessEqual(function.end_lineno - function.lineno + 1, 40, (name, function.name))

    def test_imports(self):
        used = {}
        for name, node in walk_all((ast.Import, ast.ImportFrom)):
            self.assertIsInstance(node, ast.ImportFrom, name)
            self.assertEqual(node.level, 0)
            bound = {alias.name for alias in node.names}
            self.assertTrue(all(alias.asname is None for alias in node.names))
            if node.module in LIBRARY:
                self.assertLessEqual(bound, LIBRARY[node.module])
                continue
            top, module = node.module.split(".")
            self.assertEqual(top, "latelands")
            used.setdefault(name[:-3], set()).add(module)
            defined = {stated.name for stated in tree_of(PACKAGE / f"{module}.py").body if hasattr(stated, "name")}
            defined |= {target.id for stated in tree_of(PACKAGE / f"{module}.py").body if isinstance(stated, ast.Assign)
                        for target in stated.targets}
            self.assertLessEqual(bound, defined, name)
        reached = {name: self.reached(used, name) for name in used}
        for name in reached:
            self.assertNotIn(name, reached[name], "files import from each other")

    def reached(self, used, name):
        found, left = set(), list(used[name])
        while left:
            module = left.pop()
            if module not in found:
                found.add(module)
                left.extend(used.get(module, ()))
        return found

    def test_names(self):
        barred = set(dir(builtins)) | BARRED | {"id", "type", "vars", "dir", "exec", "eval", "super"}
        for name, node in walk_all((ast.FunctionDef, ast.ClassDef, ast.arg, ast.Name)):
            word = getattr(node, "arg", None) or getattr(node, "id", None) or node.name
            bound = not isinstance(node, ast.Name) or isinstance(node.ctx, ast.Store)
            if bound:
                self.assertNotIn(word, barred, name)
            elif word in dir(builtins):
                self.assertIn(word, BUILTINS, name)
            self.assertTrue(word in DUNDERS or not word.startswith("__"), word)
        for name, node in walk_all(ast.Attribute):
            self.assertNotIn(node.attr, BARRED, name)
            self.assertFalse(node.attr.startswith("__") and node.attr not in ("__init__",), node.attr)

    def test_methods_of_builtin_values(self):
        own = {node.name for _, node in walk_all(ast.FunctionDef)}
        for name, node in walk_all(ast.Call):
            if isinstance(node.func, ast.Attribute):
                self.assertIn(node.func.attr, METHODS | own, name)

    def test_generators_have_names_of_their_own(self):
        functions = walk_all(ast.FunctionDef)
        for name, function in functions:
            if any(isinstance(node, (ast.Yield, ast.YieldFrom)) for node in ast.walk(function)):
                same = [other.name for _, other in functions if other.name == function.name]
                self.assertEqual(len(same), 1, function.name)
                called = [node for _, node in walk_all(ast.Call)
                          if isinstance(node.func, ast.Name) and node.func.id == function.name]
                self.assertEqual(called, [])

    def test_words_that_do_not_occur(self):
        for path in FILES:
            for node in ast.walk(tree_of(path)):
                if isinstance(node, (ast.Global, ast.AsyncFunctionDef, ast.SetComp, ast.GeneratorExp, ast.Await, ast.Try,
                                     ast.Div)):
                    self.assertIsInstance(node, ast.SetComp, path)
                if isinstance(node, ast.Constant) and isinstance(node.value, str):
                    self.assertNotIn("%", node.value)
                    self.assertIsNone(re.search(r"\b(type|enum|Flag|Generic|Protocol|typing)\b", node.value))
                self.assertFalse(isinstance(node, ast.Constant) and isinstance(node.value, float))

    def test_module_level(self):
        for path in FILES:
            seen = []
            for node in tree_of(path).body:
                self.assertIsInstance(node, (ast.Expr, ast.ImportFrom, ast.FunctionDef, ast.ClassDef, ast.Assign), path)
                if isinstance(node, ast.Expr):
                    self.assertIsInstance(node.value, ast.Constant, path)
                seen.extend([node.name] if hasattr(node, "name") else
                            [alias.name for alias in node.names] if hasattr(node, "names") else
                            [target.id for target in node.targets] if isinstance(node, ast.Assign) else [])
            self.assertEqual(len(seen), len(set(seen)), path)

    def test_no_local_name_is_a_class_or_an_import_of_its_file(self):
        for path in FILES:
            tree = tree_of(path)
            taken = {alias.name for node in tree.body if isinstance(node, ast.ImportFrom) for alias in node.names}
            taken |= {node.name for node in tree.body if isinstance(node, ast.ClassDef)}
            for node in ast.walk(tree):
                if isinstance(node, ast.arg):
                    self.assertNotIn(node.arg, taken, path)
                if isinstance(node, ast.Name) and isinstance(node.ctx, ast.Store):
                    self.assertNotIn(node.id, taken, path)

    def test_the_interface_stands_in_its_files(self):
        for module, names in INTERFACE.items():
            found = [node.name for node in tree_of(PACKAGE / f"{module}.py").body if hasattr(node, "name")]
            for name in names:
                self.assertIn(name, found, module)

    def test_the_methods_stand_in_their_classes(self):
        for module, (name, methods) in CLASSES.items():
            [held] = [node for node in tree_of(PACKAGE / f"{module}.py").body if getattr(node, "name", None) == name]
            self.assertLessEqual(methods, {node.name for node in held.body if isinstance(node, ast.FunctionDef)})

    def test_module_level_values_are_plain(self):
        for path in FILES:
            functions = []
            for node in tree_of(path).body:
                if isinstance(node, ast.FunctionDef):
                    functions.append(node.name)
                if isinstance(node, ast.Assign) and isinstance(node.value, ast.Dict):
                    # A table may also have functions that are defined above it.
                    values = [value for value in node.value.values
                              if not (isinstance(value, ast.Name) and value.id in functions)]
                    for value in values + node.value.keys:
                        ast.literal_eval(value)
                elif isinstance(node, ast.Assign):
                    ast.literal_eval(node.value)

    def test_methods_and_attributes_have_names_of_their_own(self):
        methods, attributes = {}, {}
        for _, held in walk_all(ast.ClassDef):
            for method in [node for node in held.body if isinstance(node, ast.FunctionDef)]:
                methods.setdefault(method.name, set()).add(held.name)
                for node in ast.walk(method):
                    if isinstance(node, ast.Attribute) and isinstance(node.ctx, ast.Store):
                        attributes.setdefault(node.attr, set()).add(held.name)
        # The most of a player is a property, and no class of the package stores it but the error.
        self.assertEqual(methods.pop("most") & attributes["most"], set())
        self.assertEqual(set(methods) & set(attributes), set())

    def test_methods_are_called_where_they_stand(self):
        methods = {node.name for _, held in walk_all(ast.ClassDef) for node in held.body
                   if isinstance(node, ast.FunctionDef)} - {"most"}
        for path in FILES:
            tree = tree_of(path)
            called = [node.func for node in ast.walk(tree) if isinstance(node, ast.Call)]
            for node in ast.walk(tree):
                if isinstance(node, ast.Attribute) and node.attr in (methods | METHODS) - {"index", "count"}:
                    self.assertIn(node, called, (path, node.attr))

    def test_no_method_is_read_off_a_class(self):
        classes = {node.name for _, node in walk_all(ast.ClassDef)}
        for name, node in walk_all(ast.Attribute):
            if isinstance(node.value, ast.Name) and node.value.id in classes:
                self.assertTrue(node.attr.isupper(), (name, node.attr))

    def test_what_stands_in_an_exit(self):
        for name, function in walk_all(ast.FunctionDef):
            if function.name == "__exit__":
                for node in function.body:
                    self.assertIsInstance(node, ast.Assign)
                    self.assertTrue(place_of(node.targets[0]) is not None and place_of(node.value) is not None, name)

    def test_what_a_loop_walks_is_not_changed_in_it(self):
        for name, function in walk_all(ast.FunctionDef):
            self.assertEqual(walked_and_changed(function), set(), (name, function.name))

    def test_that_a_walked_list_is_found_by_all_its_names(self):
        head = "def f(layer, box, c):\n "
        for text in ("for x in layer:\n  layer.append(x)", "for x in layer:\n  later.append(x)\n layer = later",
                     "for x in enumerate(layer):\n  layer[x] = 1", "for x in box.rows:\n  box.rows.pop()",
                     "for x in box.rows[c]:\n  box.rows[x].append(c)", "for x in layer if c else box:\n  box.append(x)",
                     "for x in layer.items():\n  del layer[x]", "a = b = layer\n for x in a:\n  heappush(b, x)"):
            self.assertNotEqual(walked_and_changed(ast.parse(head + text)), set(), text)
        for text in ("for x in list(layer):\n  layer.append(x)", "for x in layer:\n  later.append(x)",
                     "for x in box.rows:\n  box.found.append(x)"):
            self.assertEqual(walked_and_changed(ast.parse(head + text)), set(), text)


if __name__ == "__main__":
    unittest.main()
