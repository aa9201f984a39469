import ast
import inspect
import pathlib
import unittest

from rankwright import (
    classes, commons, editors, errors, extensions, likeness, limits, logs, makers, matroids, packings, pieces, texts,
)
from rankwright.editors import Editor, PairEditor
from rankwright.makers import uniform
from rankwright.matroids import Matroid

PACKAGE = pathlib.Path(limits.__file__).parent
LIBRARY = ("__future__", "collections", "heapq", "itertools", "math")

FUNCTIONS = {
    matroids: {
        "fault_of": ["kind", "ground", "table"],
        "told_by": ["kind", "ground", "table"],
        "table_of": ["matroid", "kind"],
    },
    makers: {
        "by_matrix": ["number", "rows", "ground"],
        "by_graph": ["edges", "ground"],
        "by_family": ["family", "ground"],
        "uniform": ["size", "ground"],
        "summed": ["one", "other"],
        "truncated": ["matroid"],
        "named": ["name"],
    },
    logs: {
        "deleted": ["matroid", "members"],
        "contracted": ["matroid", "members"],
        "replayed": ["matroid", "log"],
        "normal_of": ["log", "ground"],
        "plain_of": ["matroid", "log"],
    },
    extensions: {
        "cut_of_flats": ["matroid", "flats"],
        "extended": ["matroid", "element", "flats"],
        "cut_of": ["matroid", "element"],
        "cuts_of": ["matroid"],
        "relaxed": ["matroid", "members"],
        "tightened": ["matroid", "base"],
    },
    likeness: {
        "mapping_between": ["one", "other"],
        "is_mapping": ["one", "other", "thing"],
        "apart_tree": ["one", "other"],
        "is_apart_tree": ["one", "other", "thing"],
        "form_of": ["matroid"],
        "symmetry_count": ["matroid"],
    },
    classes: {
        "binary_of": ["matroid"],
        "ternary_of": ["matroid"],
        "graph_of": ["matroid"],
        "is_graph_of": ["matroid", "thing"],
        "is_of": ["matroid", "name"],
        "least_way": ["matroid", "name"],
        "is_way": ["matroid", "thing"],
        "forbidden": ["name"],
    },
    pieces: {
        "parts_of": ["matroid"],
        "splits_of": ["matroid"],
        "good_splits_of": ["matroid"],
        "two_sum": ["one", "other"],
        "pieces_of": ["matroid"],
        "joined_of": ["pieces"],
    },
    commons: {
        "greatest_common": ["one", "other"],
        "least_cover": ["one", "other"],
        "is_cover": ["one", "other", "common", "thing"],
    },
    packings: {
        "greatest_packing": ["matroid", "many"],
        "least_bound": ["matroid", "many"],
        "is_packing": ["matroid", "many", "thing"],
        "is_bound": ["matroid", "many", "packing", "thing"],
        "chain_of": ["matroid"],
        "even_families": ["matroid"],
        "are_families": ["matroid", "sets", "thing"],
    },
    texts: {
        "write": ["matroid"],
        "read": ["source"],
    },
}
METHODS = {
    Matroid: {
        "__init__": ["self", "ground", "bases"],
        "__eq__": ["self", "other"],
        "rank_of": ["self", "members"],
        "closure_of": ["self", "members"],
        "is_independent": ["self", "members"],
        "circuit_in": ["self", "members"],
        "fundamental": ["self", "base", "element"],
        "dual": ["self"],
    },
    Editor: {
        "__init__": ["self", "matroid"],
        "delete": ["self", "element"],
        "contract": ["self", "element"],
        "grow": ["self", "element", "flats"],
        "relax": ["self", "members"],
        "tighten": ["self", "base"],
        "turn": ["self"],
        "exchange": ["self", "other"],
        "undo": ["self"],
    },
    PairEditor: {
        "__init__": ["self", "one", "other"],
        "delete": ["self", "one", "other"],
        "contract": ["self", "one", "other"],
        "grow": ["self", "one", "other"],
        "relax": ["self", "one", "other"],
        "turn": ["self"],
    },
}
PROPERTIES = {
    Matroid: ["rank", "circuits", "flats", "hyperplanes", "loops", "coloops"],
    Editor: ["matroid", "verdicts", "stayed", "undoable"],
    PairEditor: ["pair", "mapping"],
}


def parameters(function):
    return list(inspect.signature(function).parameters)


class InterfaceTest(unittest.TestCase):

    def test_functions_are_defined_in_their_file_with_their_arguments(self):
        for module, functions in FUNCTIONS.items():
            for name, wanted in functions.items():
                with self.subTest(module=module.__name__, name=name):
                    function = getattr(module, name)
                    self.assertEqual(function.__module__, module.__name__)
                    self.assertEqual(parameters(function), wanted)

    def test_every_argument_may_be_passed_by_position_or_by_name_and_none_may_be_left_out(self):
        for module, functions in FUNCTIONS.items():
            for name in functions:
                for parameter in inspect.signature(getattr(module, name)).parameters.values():
                    with self.subTest(name=name, parameter=parameter.name):
                        self.assertEqual(parameter.kind, parameter.POSITIONAL_OR_KEYWORD)
                        self.assertIs(parameter.default, parameter.empty)

    def test_classes_are_defined_in_their_file(self):
        self.assertEqual(Matroid.__module__, "rankwright.matroids")
        self.assertEqual((Editor.__module__, PairEditor.__module__), ("rankwright.editors",) * 2)
        for name, thing in vars(errors).items():
            if inspect.isclass(thing):
                self.assertEqual(thing.__module__, "rankwright.errors", name)

    def test_methods_are_defined_in_the_class_with_their_arguments(self):
        for kind, methods in METHODS.items():
            for name, wanted in methods.items():
                with self.subTest(kind=kind.__name__, name=name):
                    self.assertEqual(parameters(vars(kind)[name]), wanted)
                    for parameter in inspect.signature(vars(kind)[name]).parameters.values():
                        self.assertEqual(parameter.kind, parameter.POSITIONAL_OR_KEYWORD)
                        self.assertIs(parameter.default, parameter.empty)

    def test_properties_are_defined_in_the_class(self):
        for kind, names in PROPERTIES.items():
            for name in names:
                with self.subTest(kind=kind.__name__, name=name):
                    self.assertIsInstance(vars(kind)[name], property)

    def test_properties_cannot_be_assigned(self):
        one = uniform(1, (0, 1))
        for made, kind in ((one, Matroid), (Editor(one), Editor), (PairEditor(one, one), PairEditor)):
            for name in PROPERTIES[kind]:
                self.assertRaises(AttributeError, setattr, made, name, None)

    def test_attributes_are_set_when_a_matroid_is_made(self):
        made = vars(Matroid((3, 5), ((3,),)))
        self.assertEqual((made["ground"], made["bases"]), ((3, 5), ((3,),)))


class FilesTest(unittest.TestCase):

    def test_the_package_holds_nothing_but_files_of_the_language(self):
        held = [path.name for path in PACKAGE.iterdir() if path.name != "__pycache__"]
        self.assertIn("__init__.py", held)
        self.assertEqual([name for name in held if not name.endswith(".py")], [])

    def test_sizes_and_characters(self):
        for path in PACKAGE.glob("*.py"):
            text = path.read_bytes().decode("ascii")
            with self.subTest(file=path.name):
                self.assertLessEqual(len(text.splitlines()), 399)
                self.assertLessEqual(max(len(line) for line in text.splitlines()), 120)
                self.assertTrue(all(sign == "\n" or " " <= sign <= "~" for sign in text))

    def test_no_function_is_longer_than_forty_lines(self):
        for path in PACKAGE.glob("*.py"):
            for node in ast.walk(ast.parse(path.read_text())):
                if isinstance(node, ast.FunctionDef):
                    with self.subTest(file=path.name, function=node.name):
                        self.assertLessEqual(node.end_lineno - node.lineno + 1, 40)

    def test_every_import_is_from_the_package_or_the_library_that_is_let_in(self):
        for path in PACKAGE.glob("*.py"):
            for node in ast.walk(ast.parse(path.read_text())):
                with self.subTest(file=path.name):
                    self.assertNotIsInstance(node, ast.Import)
                    if isinstance(node, ast.ImportFrom):
                        self.assertEqual(node.level, 0)
                        self.assertIn(node.module.split(".")[0], LIBRARY + ("rankwright",))
