"""The rules of ../shared/LANGUAGE.md that can be read off the text: of the package's files alone."""

import ast
import builtins
import pathlib
import re
import unittest

PACKAGE = pathlib.Path(__file__).resolve().parent.parent / "heardsince"
LIBRARY = {
    "heapq": {"heappush", "heappop", "heapify", "heapreplace", "heappushpop"},
    "math": {"gcd", "lcm", "isqrt", "comb", "perm", "factorial"},
    "itertools": {"product", "combinations", "permutations", "chain", "accumulate", "pairwise", "islice",
                  "zip_longest"},
    "collections": {"defaultdict"},
}
BUILTINS = {
    "len", "range", "enumerate", "zip", "min", "max", "sum", "abs", "sorted", "reversed", "int", "str", "bool",
    "list", "tuple", "dict", "set", "isinstance", "ord", "repr", "any", "all", "divmod", "ValueError", "TypeError",
    "KeyError", "map", "iter", "next", "super"}
BARRED = re.compile(r"\b(type|typing|enum|Enum|Flag|Generic|Protocol|ABC|namedtuple|NamedTuple|abstractmethod"
                    r"|register|mro|elements|open|input|law|eval|exec|globals|locals|vars|id|dir|help)\b")


class Language(unittest.TestCase):

    def files(self):
        found = sorted(PACKAGE.rglob("*.py"))
        self.assertGreater(len(found), 5)
        self.assertLess(len(found), 101)
        return [(file, file.read_text(encoding="utf-8")) for file in found]

    def nodes(self, *kinds):
        for file, text in self.files():
            for node in ast.walk(ast.parse(text)):
                if isinstance(node, kinds):
                    yield file.name, node

    def test_the_folder_has_files_of_the_package_alone(self):
        rest = [one.name for one in PACKAGE.iterdir() if one.suffix != ".py" and one.name != "__pycache__"]
        self.assertEqual(rest, [])

    def test_signs_and_sizes(self):
        for file, text in self.files():
            self.assertRegex(text, r"\A[\n -~]*\Z", file)
            self.assertLessEqual(text.count("\n"), 399, file)
            for line in text.splitlines():
                self.assertLessEqual(len(line), 120, (file, line))

    def test_functions_have_at_most_forty_lines(self):
        for file, node in self.nodes(ast.FunctionDef):
            self.assertLessEqual(node.end_lineno - node.lineno + 1, 40, (file, node.name))

    def test_imports(self):
        bare = [(file, node.lineno) for file, node in self.nodes(ast.Import)]
        self.assertEqual(bare, [])
        for file, node in self.nodes(ast.ImportFrom):
            self.assertEqual(node.level, 0)
            names = {alias.name for alias in node.names}
            if node.module in LIBRARY:
                self.assertLessEqual(names, LIBRARY[node.module], file)
            else:
                self.assertRegex(node.module, r"\Aheardsince\.\w+\Z")
                tree = ast.parse((PACKAGE / (node.module.split(".")[1] + ".py")).read_text())
                own = {part.name for part in tree.body if isinstance(part, (ast.FunctionDef, ast.ClassDef))}
                own |= {part.targets[0].id for part in tree.body if isinstance(part, ast.Assign)}
                self.assertLessEqual(names, own, (file, node.module))

    def test_all_imports_are_used(self):
        for file, text in self.files():
            tree = ast.parse(text)
            imported = {alias.name for node in ast.walk(tree) if isinstance(node, ast.ImportFrom)
                        for alias in node.names}
            used = {node.id for node in ast.walk(tree) if isinstance(node, ast.Name)}
            self.assertEqual(imported - used, set(), file)

    def test_no_file_imports_itself_through_others(self):
        seen = {}
        for file, node in self.nodes(ast.ImportFrom):
            if node.module.startswith("heardsince."):
                seen.setdefault(file[:-3], set()).add(node.module.split(".")[1])
        ended = {file.stem for file, _ in self.files()} - set(seen)
        while seen:
            ready = {name for name, needed in seen.items() if needed <= ended}
            self.assertTrue(ready, seen)
            ended |= ready
            seen = {name: needed for name, needed in seen.items() if name not in ready}

    def test_what_the_package_does_without(self):
        # some of these are barred, the others may stand in few places that would each have to be looked at
        for file, node in self.nodes(ast.Global, ast.AsyncFunctionDef, ast.Await, ast.GeneratorExp, ast.Yield,
                                     ast.Set, ast.SetComp, ast.Div, ast.JoinedStr, ast.ExceptHandler, ast.NamedExpr):
            self.fail((file, node.lineno, node))
        for file, node in self.nodes(ast.FunctionDef, ast.ClassDef):
            self.assertEqual(node.decorator_list, [], (file, node.name))
        for file, node in self.nodes(ast.Constant):
            self.assertNotIsInstance(node.value, (float, complex, bytes), file)

    def test_finally_only_puts_names_back(self):
        for file, node in self.nodes(ast.Try):
            self.assertEqual((node.handlers, node.orelse), ([], []), file)
            for row in node.finalbody:
                self.assertIsInstance(row, ast.Assign, (file, row.lineno))
                for part in ast.walk(row):
                    self.assertIsInstance(part, (ast.Assign, ast.Tuple, ast.Name, ast.Attribute, ast.expr_context),
                                          (file, row.lineno))

    def test_lists_and_dicts_of_the_modules_are_only_read(self):
        for file, text in self.files():
            tree = ast.parse(text)
            kept = {part.targets[0].id for part in tree.body
                    if isinstance(part, ast.Assign) and isinstance(part.value, (ast.List, ast.Dict))}
            parents = {child: node for node in ast.walk(tree) for child in ast.iter_child_nodes(node)}
            for node in ast.walk(tree):
                if isinstance(node, ast.Name) and node.id in kept and isinstance(node.ctx, ast.Load):
                    parent = parents[node]
                    copied = isinstance(parent, ast.Call) and getattr(parent.func, "id", "") in ("list", "dict", "len")
                    read = isinstance(parent, (ast.Subscript, ast.Compare))
                    self.assertTrue(copied or read, (file, node.lineno))

    def test_is_with_none_true_and_false(self):
        for file, node in self.nodes(ast.Compare):
            for sign, other in zip(node.ops, node.comparators):
                if isinstance(sign, (ast.Is, ast.IsNot)):
                    self.assertIsInstance(other, ast.Constant, (file, node.lineno))

    def test_names(self):
        for file, text in self.files():
            tree = ast.parse(text)
            bound = {node.name for node in ast.walk(tree) if isinstance(node, (ast.FunctionDef, ast.ClassDef))}
            bound -= {"__init__", "__eq__"}
            inner = {node.arg for node in ast.walk(tree) if isinstance(node, ast.arg)}
            inner |= {node.id for node in ast.walk(tree)
                      if isinstance(node, ast.Name) and isinstance(node.ctx, ast.Store)}
            imported = {alias.name for node in ast.walk(tree) if isinstance(node, ast.ImportFrom)
                        for alias in node.names}
            self.assertEqual(inner & imported, set(), file)
            self.assertEqual((bound | inner | imported) & set(dir(builtins)), set(), file)
            loaded = {node.id for node in ast.walk(tree) if isinstance(node, ast.Name)}
            used = loaded - inner - imported - bound
            self.assertLessEqual(used, BUILTINS, file)

    def test_barred_words(self):
        for file, text in self.files():
            tree = ast.parse(text)
            words = [node.id for node in ast.walk(tree) if isinstance(node, ast.Name)]
            words += [node.attr for node in ast.walk(tree) if isinstance(node, ast.Attribute)]
            words += [node.arg for node in ast.walk(tree) if isinstance(node, ast.arg)]
            for word in words:
                self.assertIsNone(BARRED.fullmatch(word), (file, word))
