"""The interface's names, and the rules of the language that a test can see in the files of the package."""

import ast
import inspect
import pathlib
import re
import unittest

import maskedprints
from maskedprints import behind, codec, fewest, negatives, notation, recipes, repeats, rooms, scripts, strips, telling
from maskedprints import viewing

FOLDER = pathlib.Path(maskedprints.__file__).parent
BARRED = ("type typing typing_extensions enum Enum IntEnum StrEnum Flag IntFlag Generic Protocol ABC ABCMeta namedtuple "
          "NamedTuple TypedDict TYPE_CHECKING abstractmethod").split()
INTERFACE = {
    negatives: {
        "Negative": ["width", "height", "densities"],
        "lights": ["negative", "recipe"],
        "printed": ["negative", "steps", "recipe"],
        "growing": ["negative", "steps", "recipe"],
        "first_tone": ["negative", "steps", "recipe", "cell", "tone"],
    },
    recipes: {
        "open_times": ["width", "height", "recipe"],
        "needless": ["width", "height", "recipe"],
        "alike": ["width", "height", "one", "other"],
        "parting": ["width", "height", "one", "other"],
    },
    fewest: {
        "times_for": ["negative", "steps", "cell", "tone"],
        "exposures": ["negative", "steps", "goal", "most"],
        "fewest_exposures": ["negative", "steps", "goal", "most"],
        "draws_for": ["negative", "steps", "goal"],
    },
    telling: {
        "told": ["width", "height", "steps", "recipe", "tones"],
        "negative_count": ["width", "height", "steps", "recipe", "tones"],
        "first_negative": ["width", "height", "steps", "recipe", "tones"],
        "telling_time": ["steps", "low", "high"],
        "papers_agree": ["papers", "negative", "recipe", "tones"],
        "first_unlike": ["one", "other"],
        "first_paper": ["negative", "recipe", "tones", "count"],
        "masks_told": ["negative", "steps", "time", "tones"],
        "mask_count": ["negative", "steps", "time", "tones"],
    },
    behind: {
        "behind": ["one", "other"],
        "least_behind": ["one", "goal"],
        "pair_count": ["negative"],
        "faded": ["life", "ticks", "density"],
        "ticks_until": ["life", "light", "density"],
    },
    strips: {
        "strip_recipe": ["width", "height", "time"],
        "bands": ["negative", "steps", "time", "tone"],
        "band_times": ["negative", "steps", "column", "tone"],
        "quick": ["one", "other"],
        "quick_row": ["papers"],
        "quick_count": ["papers"],
        "exposure_times": ["negative", "steps", "covered", "tones"],
        "exposure_count": ["negative", "steps", "tones"],
        "first_exposure": ["negative", "steps", "tones"],
    },
    repeats: {
        "light_after": ["negative", "recipe", "cell", "count"],
        "times_until": ["negative", "steps", "recipe", "cell", "tone"],
        "same_print": ["negative", "steps", "recipe", "most"],
        "dark_order": ["negative", "steps", "recipe"],
    },
    rooms: {
        "Darkroom": ["negative", "steps"],
        "Trial": ["room"],
    },
    viewing: {
        "Viewer": ["width", "height", "steps", "recipe"],
    },
    notation: {
        "picture": ["negative"],
        "recipe_text": ["recipe"],
        "read_recipe": ["negative", "text"],
        "open_map": ["width", "height", "recipe"],
    },
    codec: {
        "encode_negative": ["negative"],
        "decode_negative": ["values"],
    },
    scripts: {
        "run_script": ["negative", "steps", "text"],
    },
}
# The methods of the classes, which stand in the classes themselves, and their properties.
METHODS = {
    rooms.Darkroom: {
        "expose": ["time", "covered"],
        "draw": ["time", "pace"],
        "flip": [],
        "fresh": [],
        "keep_as": ["name"],
        "fetch": ["name"],
        "undo": [],
        "redo": [],
        "apply_all": ["operations"],
        "tried_out": ["operations", "keep"],
    },
    rooms.Trial: {"hold": []},
    viewing.Viewer: {"seen": ["cell", "tone"], "best_look": [], "sure_densities": [], "sure_tones": []},
}
PROPERTIES = {
    negatives.Negative: ["width", "height", "densities"],
    rooms.Darkroom: ["print_now", "lights_now", "is_over", "prints_made", "kept_under", "history"],
    viewing.Viewer: ["count_left", "told_so_far"],
}


def files():
    """The paths of all files of the package."""
    return sorted(FOLDER.glob("*.py"))


class InterfaceTest(unittest.TestCase):

    def test_names_arguments_and_files(self):
        for module, names in INTERFACE.items():
            for name, arguments in names.items():
                found = getattr(module, name)
                self.assertEqual(found.__module__, module.__name__, name)
                self.assertEqual(list(inspect.signature(found).parameters), arguments, name)


    def test_methods_and_properties(self):
        for owner, names in METHODS.items():
            for name, arguments in names.items():
                self.assertEqual(list(inspect.signature(vars(owner)[name]).parameters), ["self"] + arguments, name)
        for owner, names in PROPERTIES.items():
            for name in names:
                self.assertIsInstance(vars(owner)[name], property, name)

    def test_class_methods(self):
        found = vars(rooms.Darkroom)["replay"]
        self.assertIsInstance(found, classmethod)
        self.assertEqual(list(inspect.signature(rooms.Darkroom.replay).parameters), ["negative", "steps", "operations"])


class LanguageTest(unittest.TestCase):

    def test_the_folder_contains_nothing_else(self):
        others = [path.name for path in FOLDER.iterdir() if path.suffix != ".py" and path.name != "__pycache__"]
        self.assertEqual(others, [])

    def test_lines_and_characters(self):
        for path in files():
            lines = path.read_text(encoding="utf-8").split("\n")
            self.assertLessEqual(len(lines), 399, path)
            for line in lines:
                self.assertLessEqual(len(line), 120, line)
                self.assertRegex(line, "^[ -~]*$")

    def test_barred_words(self):
        for path in files():
            words = re.findall(r"\w+", path.read_text(encoding="utf-8"))
            self.assertEqual([word for word in words if word in BARRED], [], path)

    def test_functions_are_short(self):
        for path in files():
            for node in ast.walk(ast.parse(path.read_text(encoding="utf-8"))):
                if isinstance(node, ast.FunctionDef):
                    self.assertLessEqual(node.end_lineno - node.lineno + 1, 40, node.name)

    def test_no_name_is_a_method_and_an_attribute(self):
        methods, attributes = set(), set()
        for path in files():
            for node in ast.walk(ast.parse(path.read_text(encoding="utf-8"))):
                if isinstance(node, ast.ClassDef):
                    methods |= {item.name for item in node.body if isinstance(item, ast.FunctionDef)}
                if isinstance(node, ast.Attribute) and isinstance(node.ctx, ast.Store):
                    attributes.add(node.attr)
        self.assertEqual(methods & attributes, set())

    def test_imports_name_the_file_that_defines(self):
        for path in files():
            for node in ast.walk(ast.parse(path.read_text(encoding="utf-8"))):
                self.assertNotIsInstance(node, ast.Import, path)
                if isinstance(node, ast.ImportFrom):
                    self.assertEqual(node.level, 0)
                    self.assertTrue(node.module.startswith("maskedprints."), node.module)
                    source = FOLDER / (node.module.split(".")[1] + ".py")
                    body = ast.parse(source.read_text(encoding="utf-8")).body
                    defined = [item.name for item in body if isinstance(item, (ast.FunctionDef, ast.ClassDef))]
                    defined += [item.targets[0].id for item in body if isinstance(item, ast.Assign)]
                    for alias in node.names:
                        self.assertIn(alias.name, defined)


if __name__ == "__main__":
    unittest.main()
