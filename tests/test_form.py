"""The form of the package: where the names of the interface stand, and plain limits of size."""

import ast
import inspect
import os
import unittest

import gluewords.errors
import gluewords.few
import gluewords.making
import gluewords.meets
import gluewords.webs
import gluewords.words

PACKAGE = os.path.dirname(gluewords.__file__)

INTERFACE = {
    gluewords.errors: {"GlueError": None, "BadWord": None, "BadWeb": None},
    gluewords.words: {"is_word": ["thing"], "short": ["word"], "back": ["word"],
                      "times": ["one", "other"]},
    gluewords.webs: {"is_web": ["thing"], "web_of": ["words"], "reads": ["web", "word"]},
    gluewords.making: {"made_by": ["words", "word"]},
    gluewords.few: {"few": ["web"]},
    gluewords.meets: {"meet": ["one", "other"], "sides": ["web", "letters"]},
}


def sources():
    for name in sorted(os.listdir(PACKAGE)):
        if name != "__pycache__":
            with open(os.path.join(PACKAGE, name), encoding="utf-8") as file:
                yield name, file.read()


class Form(unittest.TestCase):
    def test_the_interface_stands_in_its_files(self):
        for module, names in INTERFACE.items():
            with open(module.__file__, encoding="utf-8") as file:
                tree = ast.parse(file.read())
            defined = {part.name for part in tree.body
                       if isinstance(part, (ast.FunctionDef, ast.ClassDef))}
            for name, parameters in names.items():
                self.assertIn(name, defined)
                if parameters is not None:
                    told = list(inspect.signature(getattr(module, name)).parameters)
                    self.assertEqual(told, parameters, name)

    def test_files_and_lines(self):
        for name, text in sources():
            self.assertTrue(name.endswith(".py"), name)
            lines = text.splitlines()
            self.assertLessEqual(len(lines), 399, name)
            for line in lines:
                self.assertLessEqual(len(line), 120, (name, line))
                self.assertTrue(all(" " <= sign <= "~" for sign in line), (name, line))

    def test_functions_are_small(self):
        for name, text in sources():
            for part in ast.walk(ast.parse(text)):
                if isinstance(part, ast.FunctionDef):
                    self.assertLessEqual(part.end_lineno - part.lineno + 1, 40, part.name)

    def test_imports(self):
        for name, text in sources():
            for part in ast.walk(ast.parse(text)):
                self.assertNotIsInstance(part, ast.Import, name)
                if isinstance(part, ast.ImportFrom):
                    self.assertEqual(part.level, 0, name)
                    names = {alias.name for alias in part.names}
                    if part.module == "heapq":
                        self.assertLessEqual(names, {"heappush", "heappop"}, name)
                    else:
                        self.assertTrue(part.module.startswith("gluewords."), part.module)


if __name__ == "__main__":
    unittest.main()
