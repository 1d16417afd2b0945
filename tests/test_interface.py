"""The interface: each name is defined in its file, with the arguments that the document shows."""

import ast
import importlib
import inspect
import pathlib
import unittest

FOLDER = pathlib.Path(__file__).resolve().parent.parent / "latebound"
FUNCTIONS = {
    "data": ("is_lib(thing)", "is_program(thing)", "is_step(program, thing)"),
    "rows": ("row(program, names)", "first_row(program)", "gives(program, name, use)"),
    "runs": ("run(program, steps)",),
    "walks": ("bases(program)",),
    "binds": ("bindings(program, name, i)", "always(program, name, i)", "shows_answer(program, name, i, reply, thing)",
              "dead(program)", "without(program, definitions)", "hides(program, wants)",
              "fewest_hides(program, calls)"),
    "torn": ("torn(program)", "tearing_run(program, name, i, pins=())", "fewest_pins(program, calls)",
             "shows_pins(program, calls, thing)", "steady_order(program)"),
    "closing": ("tears(process, k)", "torn_by(process, order)", "calm_order(process)", "quiet_order(process)"),
    "alike": ("alike(program, one, other)", "shows_unlike(program, one, other, thing)", "classes(program)",
              "orders(program, doors)", "commute(program, first, second)"),
    "preload": ("with_preload(program, preload)", "gives_all(program, wanted)", "breach(program, wanted)",
                "shows_preload(program, wanted, thing)", "least_preload(program, wanted)",
                "many_preloads(program, wanted, many)", "is_lean(program, wanted, preload)", "clash(program, wanted)"),
    "doors": ("told_with(program, name, i, doors)", "fewest_doors(program, name, i, answer)",
              "needed(program, name, i, answer)", "shown_by(program, k)", "shows_door(program, k, thing)",
              "idle_doors(program)"),
    "texts": ("program_text(program)", "program_in(text)", "run_text(run)", "run_in(text)", "answer_text(answer)"),
    "desk": ("answers(text)",),
}
CLASSES = {
    ("process", "Process"): ("__init__(self, program)", "open_door(self, k)", "close_door(self, k)",
                             "call(self, name, i)", "do(self, step)", "counts(self)", "opened(self)", "there(self)",
                             "public(self)", "deep(self)", "looks(self, name)", "slot(self, name, i)", "base(self)",
                             "stand(self)", "twin(self)"),
    ("session", "Session"): ("__init__(self, program)", "do(self, step)", "put(self, lib)", "take(self, name)",
                             "preload(self, names)", "add_door(self, name, mode)", "take_door(self, k)", "undo(self)",
                             "program(self)", "stand(self)", "many(self)", "may(self, name, i)", "twin(self)"),
    ("errors", "Ring"): ("__init__(self, doors)",),
    ("errors", "BadText"): ("__init__(self, line)",),
    ("errors", "BadLine"): ("__init__(self, number)",),
    ("errors", "NoProgram"): (),
    ("errors", "NoDoor"): ("__init__(self, number)",),
    ("errors", "NoLib"): ("__init__(self, name)",),
    ("errors", "NoUse"): ("__init__(self, number)",),
    ("errors", "NotThere"): ("__init__(self, name)",),
    ("errors", "NotOpen"): ("__init__(self, number)",),
    ("errors", "NothingDone"): (),
}


def shown(function):
    return function.__name__ + str(inspect.signature(function))


class InterfaceTest(unittest.TestCase):

    def test_functions(self):
        for file, functions in FUNCTIONS.items():
            module = importlib.import_module("latebound." + file)
            tree = ast.parse((FOLDER / (file + ".py")).read_text(encoding="utf-8"))
            defined = [node.name for node in tree.body if isinstance(node, ast.FunctionDef)]
            for function in functions:
                name = function.partition("(")[0]
                self.assertEqual(shown(getattr(module, name)), function)
                self.assertIn(name, defined)

    def test_classes(self):
        for (file, name), methods in CLASSES.items():
            made = getattr(importlib.import_module("latebound." + file), name)
            tree = ast.parse((FOLDER / (file + ".py")).read_text(encoding="utf-8"))
            bodies = [node.body for node in tree.body if isinstance(node, ast.ClassDef) and node.name == name]
            defined = [node.name for node in bodies[0] if isinstance(node, ast.FunctionDef)]
            for method in methods:
                self.assertEqual(shown(getattr(made, method.partition("(")[0])), method)
                self.assertIn(method.partition("(")[0], defined)

    def test_a_package_in_one_folder(self):
        self.assertTrue((FOLDER / "__init__.py").is_file())
        self.assertEqual([path.name for path in FOLDER.iterdir() if path.is_dir() and path.name != "__pycache__"], [])


if __name__ == "__main__":
    unittest.main()
