"""The script that holds the package against the size and sign rules."""

import os
import sys
import tempfile
import unittest

ROOT = os.path.dirname(os.path.dirname(os.path.abspath(__file__)))
sys.path.insert(0, os.path.join(ROOT, "tools"))

import check_package  # noqa: E402


def function(lines):
    """The text of a function of so many lines."""
    return "def f():\n" + "    pass\n" * (lines - 1)


class TestCheckPackage(unittest.TestCase):

    def faults(self, text):
        return [fault.split(":")[0] for _, fault in check_package.faults_of_text("a.py", text)]

    def test_the_package_itself(self):
        self.assertEqual(check_package.faults_of_package(os.path.join(ROOT, "editlots")), [])

    def test_functions(self):
        self.assertEqual(self.faults(function(40)), [])
        self.assertEqual(self.faults(function(41)), ["L10"])

    def test_lines(self):
        self.assertEqual(self.faults("A = 1\n" * 399), [])
        self.assertEqual(self.faults("A = 1\n" * 400), ["L10"])
        self.assertEqual(self.faults("#" * 120 + "\n"), [])
        self.assertEqual(self.faults("#" * 121 + "\n"), ["L10"])

    def test_signs(self):
        self.assertEqual(self.faults("# ~ !\n"), [])
        self.assertEqual(self.faults("A = 1  #\t\n"), ["L10", "L14"])
        self.assertEqual(self.faults("# \u00e4\n"), ["L14"])
        self.assertEqual(self.faults("A = 1\r\n"), ["L14"])

    def test_names(self):
        for name in ("tables.py", "__init__.py", "a_1.py"):
            self.assertEqual(check_package.faults_of_name(name, [], True), [])
        for name in ("Tables.py", "a-b.py", "len.py", "tests.py", "test_a.py", "law_a.py", "open.py", "a.txt"):
            self.assertEqual(len(check_package.faults_of_name(name, [], True)), 1, name)
        self.assertEqual(len(check_package.faults_of_name("__main__.py", [], False)), 1)
        self.assertEqual(len(check_package.faults_of_name("a.py", ["a"], True)), 1)

    def test_folders_and_strings(self):
        with tempfile.TemporaryDirectory() as folder:
            self.assertEqual(len(check_package.faults_of_package(folder)), 1)
            with open(os.path.join(folder, "__init__.py"), "w") as held:
                held.write("A = (\n" + ("'" + "a" * 100 + "',\n") * 300 + ")\n")
            self.assertEqual(check_package.faults_of_package(folder), [])
            for number in range(100):
                with open(os.path.join(folder, "a%d.py" % number), "w") as held:
                    held.write("A = (\n" + ("'" + "a" * 100 + "',\n") * 300 + ")\n")
            faults = check_package.faults_of_package(folder)
            self.assertEqual([fault.split(": ")[1] for fault in faults], ["L14", "L14"])


if __name__ == "__main__":
    unittest.main()
