import re
import unittest

from tests import rules


class Rules(unittest.TestCase):
    def test_files(self):
        for path in rules.PACKAGE.glob("**/*"):
            if "__pycache__" in path.parts:
                continue
            self.assertTrue(path.is_dir() or path.suffix == ".py", path)
            self.assertRegex(path.stem, re.compile(r"[a-z][a-z0-9_]*|__init__"))
        self.assertTrue((rules.PACKAGE / "__init__.py").exists())
        self.assertLessEqual(len(rules.files()), 100)

    def test_each_file_keeps_the_rules(self):
        package = rules.Package()
        for path in rules.files():
            with self.subTest(path.name):
                self.assertEqual(rules.File(package, path).check(), [])

    def test_names_mean_one_thing(self):
        self.assertEqual(rules.name_faults(rules.Package()), [])

    def test_no_cycles(self):
        self.assertEqual(rules.cycle_faults(rules.Package()), [])

    def test_nothing_is_printed(self):
        for path in rules.files():
            with self.subTest(path.name):
                self.assertNotIn("print(", path.read_text(encoding="ascii"))
