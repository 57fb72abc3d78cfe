"""The interface: each function and class stands in its file, each method in the body of its class."""

import importlib
import inspect
import pathlib
import subprocess
import sys
import unittest

import evenloads

PACKAGE = pathlib.Path(evenloads.__file__).parent

FUNCTIONS = {
    "basics": {"is_integer": "value", "is_count": "value", "is_name": "value"},
    "moves": {"is_chain": "value"},
    "bounds": {"is_within": "plan bounds", "plan_within": "yard bounds", "bar": "yard bounds",
               "is_bar": "yard bounds value", "place_all": "yard bounds", "least_top": "yard", "top_set": "yard"},
    "answers": {"answer": "yard bounds", "exact_top": "yard"},
    "best": {"best_plan": "yard", "best_loads": "yard", "levels": "yard", "is_best": "plan", "first_fault": "plan"},
    "gifts": {"gifts_to_best": "plan", "is_leading": "plan value", "led": "plan"},
    "spans": {"least_places": "yard task", "span": "yard task server", "room": "yard servers",
              "claim": "yard task servers", "cap": "yard task server servers", "lift": "yard task server servers",
              "capping_set": "yard task server", "lifting_set": "yard task server", "sure_places": "yard",
              "spare_places": "yard", "plan_giving": "yard task server amount"},
    "ties": {"tight_set": "yard server", "is_tight": "yard servers", "is_ring": "plan value", "ring": "plan",
             "thin": "plan"},
    "curves": {"payers": "yard task", "relieved": "yard task"},
    "changes": {"effects": "yard later", "who_pays": "yard"},
    "evening": {"best_assignment": "yard", "best_counts": "yard", "is_even": "assignment", "steep_way": "assignment",
                "ways_to_best": "assignment", "heights": "assignment", "is_heights": "assignment value",
                "possible_places": "yard", "certain_places": "yard", "distance": "assignment",
                "nearest_best": "assignment"},
    "texts": {"yard_text": "yard", "read_yard": "text"},
    "judge": {"is_claim": "value", "certificate_of": "claim", "is_certificate": "claim value"},
}

# Methods by what kind of attribute of the class they are, each with its parameters behind self.
CLASSES = {
    "ratios": {"Ratio": {
        "plain": {"__init__": "top bottom", "over": "other", "compare": "other", "floor": "", "ceiling": "",
                  "__add__": "other", "__radd__": "other", "__sub__": "other", "__rsub__": "other",
                  "__mul__": "other", "__rmul__": "other", "__floordiv__": "other", "__rfloordiv__": "other",
                  "__mod__": "other", "__rmod__": "other", "__neg__": "", "__abs__": "", "__eq__": "other",
                  "__str__": "", "__repr__": ""},
        "static": {"of": "value", "read": "text"},
        "property": ["top", "bottom"]}},
    "yards": {"Yard": {
        "plain": {"__init__": "speeds tasks", "servers": "", "tasks": "", "speed": "server", "work": "task",
                  "places": "task", "__len__": "", "__contains__": "x", "__eq__": "other", "confined": "servers",
                  "weight": "servers", "speed_of": "servers", "density": "servers", "__add__": "other",
                  "__sub__": "other", "__or__": "other", "with_work": "task work", "with_place": "task server",
                  "without_place": "task server", "with_server": "server speed tasks",
                  "with_speed": "server speed", "scaled": "factor"},
        "static": {"jobs": "servers places"},
        "property": ["total", "is_whole"]}},
    "moves": {
        "Move": {
            "plain": {"__init__": "task start goal", "__lt__": "other", "__le__": "other", "__gt__": "other",
                      "__ge__": "other", "__eq__": "other", "__neg__": "", "__str__": "", "__repr__": ""},
            "static": {},
            "property": ["task", "start", "goal"]},
        "Gift": {
            "plain": {"__init__": "amount moves", "moves": "", "__len__": "", "__neg__": "", "__eq__": "other"},
            "static": {"single": "amount task start goal"},
            "property": ["amount", "start", "goal"]}},
    "plans": {"Plan": {
        "plain": {"__init__": "yard amounts", "__getitem__": "at", "amounts": "", "ties": "", "load": "server",
                  "loads": "", "__eq__": "other", "above": "bound", "never_dearer": "plan", "parting": "plan",
                  "mix": "plan share", "__rshift__": "other", "__or__": "other", "is_possible": "gift",
                  "is_downhill": "gift"},
        "static": {"first": "yard", "shared": "yard"},
        "property": ["yard", "top"]}},
    "costs": {"Cost": {
        "plain": {"__init__": "lines", "__call__": "load", "of_plan": "plan", "lines": "", "__add__": "other",
                  "__eq__": "other"},
        "static": {"hinge": "bound"},
        "property": []}},
    "curves": {"Curve": {
        "plain": {"__init__": "yard task", "__call__": "work", "risers": "work", "fallers": "work", "breaks": "",
                  "greatest_work": "bound"},
        "static": {},
        "property": ["yard", "task"]}},
    "jobs": {"Assignment": {
        "plain": {"__init__": "yard spots", "__getitem__": "at", "spots": "", "counts": "", "jobs_at": "server",
                  "steps": "", "is_way": "value", "taken": "moves", "as_plan": "", "__eq__": "other"},
        "static": {},
        "property": ["yard"]}},
    "board": {"Board": {
        "plain": {"__init__": "yard", "__getitem__": "at", "__setitem__": "at worth", "__iadd__": "other",
                  "__isub__": "other", "allow": "task server", "forbid": "task server",
                  "add_server": "server speed tasks", "set_speed": "server speed", "undo": "", "copy": "",
                  "tried": "action", "do": "command", "do_all": "commands", "attempt": "commands"},
        "static": {},
        "property": ["yard", "plan", "changes"]}},
    "answers": {
        "Answer": {"plain": {"__init__": "about", "told": ""}, "static": {}, "property": []},
        "Shown": {"plain": {"__init__": "about layout", "told": ""}, "static": {}, "property": []},
        "Barred": {"plain": {"__init__": "about barring", "told": ""}, "static": {}, "property": []},
        "Exact": {"plain": {"__init__": "about layout barring", "told": ""}, "static": {}, "property": []}},
}

# All other classes have no bases.
BASES = {"Shown": ["Answer"], "Barred": ["Answer"], "Exact": ["Shown", "Barred"]}


def parameters(function):
    return list(inspect.signature(function).parameters)


class InterfaceTest(unittest.TestCase):

    def test_functions(self):
        for file, functions in FUNCTIONS.items():
            module = importlib.import_module("evenloads." + file)
            for name, wanted in functions.items():
                found = getattr(module, name)
                self.assertEqual(found.__module__, module.__name__)
                self.assertEqual(found.__name__, name)
                self.assertEqual(parameters(found), wanted.split(), name)

    def test_classes(self):
        for file, classes in CLASSES.items():
            module = importlib.import_module("evenloads." + file)
            for name, members in classes.items():
                made = getattr(module, name)
                self.assertEqual((made.__module__, made.__name__), (module.__name__, name))
                self.assertEqual([base.__name__ for base in made.__bases__], BASES.get(name, ["object"]))
                body = vars(made)
                for method, wanted in members["plain"].items():
                    self.assertTrue(inspect.isfunction(body[method]), method)
                    self.assertEqual(parameters(body[method])[1:], wanted.split(), method)
                for method, wanted in members["static"].items():
                    self.assertIsInstance(body[method], staticmethod, method)
                    self.assertEqual(parameters(body[method].__func__), wanted.split(), method)
                for word in members["property"]:
                    self.assertIsInstance(body[word], property, word)

    def test_the_package_is_one_folder_that_can_be_imported(self):
        self.assertEqual(PACKAGE.name, "evenloads")
        self.assertTrue((PACKAGE / "__init__.py").is_file())
        for file in sorted(PACKAGE.glob("*.py")):
            name = "evenloads" if file.stem == "__init__" else "evenloads." + file.stem
            done = subprocess.run([sys.executable, "-W", "error", "-c", "import " + name], cwd=PACKAGE.parent,
                                  capture_output=True, text=True)
            self.assertEqual((done.returncode, done.stdout, done.stderr), (0, "", ""), name)


if __name__ == "__main__":
    unittest.main()
