"""The files of the package: their form, and the interface that they must have."""

import ast
import builtins
import importlib
import inspect
import pathlib
import unittest

from threelanes import errors

FOLDER = pathlib.Path(__file__).parent.parent / "threelanes"
LIBRARY = ("heapq", "math", "itertools", "collections")
BUILTINS = set(
    "len range enumerate zip min max sum abs sorted reversed int str bool list tuple dict set isinstance ord repr "
    "any all divmod iter next map super staticmethod ValueError".split()
)
METHODS = set(
    "append clear copy count endswith extend find get index insert isalnum isalpha isdigit islower isspace isupper "
    "items join keys ljust lower lstrip partition pop remove replace reverse rfind rjust rpartition rsplit rstrip "
    "setdefault split splitlines startswith strip update upper values zfill bit_length isascii removeprefix "
    "removesuffix add discard".split()
)
FORBIDDEN = (ast.GeneratorExp, ast.Global, ast.AsyncFunctionDef, ast.Await, ast.Import, ast.Div, ast.Set)

INTERFACE = {
    "checks": {"is_integer": "value", "is_within": "value least most", "is_lot": "value"},
    "papers": {"Paper": "word *parts", "Denial": "word *parts", "fixed": "value"},
    "webs": {
        "Web": "turns",
        "Web.read": "text",
        "Web.around": "self place",
        "Web.tied": "self one other",
        "mirrored": "web",
        "renamed": "web names",
    },
    "faces": {
        "faces_of": "web",
        "face_at": "web one other",
        "Flat": "places ties faces",
        "Apart": "places",
        "Handles": "count",
        "judged_flat": "web",
    },
    "check_webs": {"shows_flat": "web value"},
    "fills": {"is_filled": "web", "filled": "web"},
    "makes": {
        "ring": "many",
        "floor": "wide tall",
        "wheel": "many",
        "put_in": "web face",
        "flipped": "web one other",
    },
    "layers": {
        "layers_of": "web outer",
        "uppers_of": "web outer",
        "leg_of": "web outer place",
        "leg_colours": "web outer known",
    },
    "doors": {
        "full_faces": "web colours",
        "Met": "face doors",
        "Round": "doors",
        "door_walk": "web colours door",
        "met_face": "web colours outer",
        "paired_faces": "web colours",
    },
    "check_doors": {"shows_walk": "web colours door value"},
    "pieces": {
        "is_ring": "web ring",
        "within": "web ring",
        "Cut": "face legs rims",
        "cut": "web outer ring begins",
        "Parted": "pieces bags above",
        "parted": "web outer",
    },
    "check_pieces": {"shows_parted": "web outer value"},
    "seats": {"Seats": "seats bags above", "seated": "web", "are_near": "value one other"},
    "check_seats": {"shows_seats": "web value"},
    "bags": {
        "BagTree": "bags above",
        "BagTree.read": "text",
        "BagTree.__eq__": "self other",
        "BagTree.__str__": "self",
        "ties_in": "tree",
        "bags_with": "tree piece",
        "restricted": "tree pieces",
        "path_tree": "many",
        "tree_of": "order ties",
    },
    "peels": {
        "Peeled": "order",
        "Middle": "at",
        "peeled": "tree",
        "middle_bag": "tree weights",
        "shows_peeled": "tree value",
        "shows_middle": "tree weights value",
    },
    "words": {
        "is_word": "value",
        "plain_word": "many",
        "first_repeat": "word",
        "count_words": "lists",
        "chosen_word": "lists",
    },
    "lines": {
        "line_colours": "many",
        "is_line_walk": "value many",
        "Calm": "",
        "Stray": "walk",
        "judged_line": "colours",
        "shows_line": "colours value",
    },
    "colourings": {"tree_colours": "tree", "map_colours": "web"},
    "check_colourings": {
        "Sound": "",
        "Echo": "walk",
        "judged_walks": "web colours",
        "shows_walks": "web colours value",
        "Free": "most",
        "Repeat": "way",
        "judged_ways": "web colours most",
        "shows_ways": "web colours most value",
    },
    "labels": {
        "is_label": "value",
        "told_label": "label",
        "label_text": "seat near",
        "are_tied": "one other",
        "labels_of": "web",
    },
    "check_labels": {"shows_labels": "web value"},
    "lots": {
        "Best": "lot",
        "Shares": "lots",
        "Parting": "lot",
        "best_lot": "web",
        "shares_of": "web k",
        "parting_of": "web",
        "rests_without": "web lot",
    },
    "check_lots": {"shows_best": "web value", "shows_shares": "web k value", "shows_parting": "web value"},
    "pictures": {"picture_of": "value", "seats_in": "picture"},
    "desks": {
        "Desk": "",
        "Desk.tell": "self line",
        "Desk.names": "self",
        "Desk.lines": "self",
        "Desk.read": "lines",
    },
}


def sources():
    """The names of all modules of the package, each with its text."""
    return {path.stem: path.read_text(encoding="utf-8") for path in sorted(FOLDER.glob("*.py"))}


def own_imports(tree):
    """The modules of the package from which a module imports."""
    found = [node.module for node in ast.walk(tree) if isinstance(node, ast.ImportFrom)]
    return [name.split(".")[1] for name in found if name.split(".")[0] == FOLDER.name]


class Files(unittest.TestCase):
    def setUp(self):
        self.texts = sources()
        self.trees = {name: ast.parse(text) for name, text in self.texts.items()}

    def each_node(self, *kinds):
        for name, tree in self.trees.items():
            for node in ast.walk(tree):
                if isinstance(node, kinds):
                    yield f"{name}.py:{getattr(node, 'lineno', 0)}", node

    def test_the_folder_holds_modules_alone(self):
        held = [path for path in FOLDER.iterdir() if path.name != "__pycache__"]
        self.assertEqual([path.name for path in held if path.suffix != ".py"], [])

    def test_characters_and_sizes(self):
        for name, text in self.texts.items():
            lines = text.split("\n")
            self.assertLess(len(lines), 400, name)
            self.assertTrue(all(" " <= sign <= "~" for line in lines for sign in line), name)
            self.assertLessEqual(max(len(line) for line in lines), 120, name)
        for where, node in self.each_node(ast.FunctionDef):
            self.assertLessEqual(node.end_lineno - node.lineno + 1, 40, where)

    def test_imports(self):
        for where, node in self.each_node(ast.ImportFrom):
            self.assertIn(node.module.split(".")[0], (FOLDER.name, *LIBRARY), where)
            self.assertTrue(all(alias.asname is None and alias.name != "*" for alias in node.names), where)
        left = {name: set(own_imports(tree)) for name, tree in self.trees.items()}
        while left:
            free = [name for name, used in left.items() if not used & set(left)]
            self.assertTrue(free, f"a ring of imports among {sorted(left)}")
            for name in free:
                del left[name]

    def test_nothing_that_the_subset_lacks(self):
        for where, node in self.each_node(*FORBIDDEN):
            self.fail(f"{where}: {type(node).__name__}")
        for where, node in self.each_node(ast.Constant):
            self.assertNotIsInstance(node.value, (float, complex), where)
            self.assertNotIn("%", str(node.value), where)

    def test_handlers_catch_errors_of_the_package_alone(self):
        for where, node in self.each_node(ast.Try):
            self.assertEqual(node.finalbody, [], where)
            for handler in node.handlers:
                self.assertIsInstance(handler.type, ast.Name, where)
                self.assertIn(handler.type.id, vars(errors), where)

    def test_builtins(self):
        for where, node in self.each_node(ast.Name):
            if hasattr(builtins, node.id):
                self.assertIn(node.id, BUILTINS, where)
                self.assertIsInstance(node.ctx, ast.Load, where)
        for where, node in self.each_node(ast.arg):
            self.assertFalse(hasattr(builtins, node.arg), where)

    def test_methods(self):
        own = {node.name for _, node in self.each_node(ast.FunctionDef)}
        for where, node in self.each_node(ast.Call):
            if isinstance(node.func, ast.Attribute):
                self.assertIn(node.func.attr, METHODS | own, where)

    def test_module_level(self):
        allowed = (ast.Expr, ast.ImportFrom, ast.FunctionDef, ast.ClassDef, ast.Assign)
        for name, tree in self.trees.items():
            for node in tree.body:
                self.assertIsInstance(node, allowed, f"{name}.py:{node.lineno}")
                if isinstance(node, ast.Expr):
                    self.assertIsInstance(node.value.value, str, f"{name}.py:{node.lineno}")

    def test_no_local_name_is_one_of_its_file(self):
        for name, tree in self.trees.items():
            imported = [alias.name for node in tree.body if isinstance(node, ast.ImportFrom) for alias in node.names]
            taken = set(imported) | {node.name for node in tree.body if hasattr(node, "name")}
            for node in ast.walk(tree):
                if isinstance(node, ast.arg):
                    self.assertNotIn(node.arg, taken, f"{name}.py:{node.lineno}")
                if isinstance(node, ast.Name) and isinstance(node.ctx, ast.Store):
                    self.assertNotIn(node.id, taken, f"{name}.py:{node.lineno}")


class Interface(unittest.TestCase):
    def test_each_name_is_defined_in_its_file(self):
        for module, names in INTERFACE.items():
            tree = ast.parse(sources()[module])
            defined = {node.name for node in tree.body if isinstance(node, (ast.FunctionDef, ast.ClassDef))}
            for name in names:
                self.assertIn(name.split(".")[0], defined, module)

    def test_parameters(self):
        for module, names in INTERFACE.items():
            for name, wanted in names.items():
                found = importlib.import_module(f"{FOLDER.name}.{module}")
                for part in name.split("."):
                    found = vars(found)[part]
                found = getattr(found, "__func__", found)
                parameters = inspect.signature(found).parameters.values()
                self.assertEqual(" ".join(str(parameter) for parameter in parameters), wanted, name)


if __name__ == "__main__":
    unittest.main()
