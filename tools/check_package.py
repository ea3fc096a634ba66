"""Hold the files of the package against the size and sign rules L10 and L14 of LANGUAGE.md."""

import ast
import builtins
import os
import re
import sys

MOST_FUNCTION_LINES = 40
MOST_FILE_LINES = 399
MOST_LINE_SIGNS = 120
MOST_FILES = 100
MOST_STRING_SIGNS = 2000000
BARRED_NAMES = {
    "test", "tests", "testing", "site", "conftest", "sitecustomize", "usercustomize",
    "register", "mro", "elements", "open", "input", "law", "version_info", "with_traceback", "add_note",
}


def faults_of_text(path, text):
    """The faults of one file, as (line, what is wrong)."""
    faults = []
    lines = text.split("\n")
    if text.endswith("\n"):
        lines.pop()
    if len(lines) > MOST_FILE_LINES:
        faults.append((len(lines), "L10: more than %d lines" % MOST_FILE_LINES))
    for number, line in enumerate(lines, 1):
        if len(line) > MOST_LINE_SIGNS:
            faults.append((number, "L10: more than %d signs" % MOST_LINE_SIGNS))
        if "\t" in line:
            faults.append((number, "L10: a tab"))
        if any(not " " <= sign <= "~" for sign in line):
            faults.append((number, "L14: a sign that is none from the space to ~"))
    for node in ast.walk(ast.parse(text, path)):
        if isinstance(node, (ast.FunctionDef, ast.AsyncFunctionDef)):
            first = min([node.lineno] + [part.lineno for part in node.decorator_list])
            if node.end_lineno - first + 1 > MOST_FUNCTION_LINES:
                faults.append((first, "L10: %s has more than %d lines" % (node.name, MOST_FUNCTION_LINES)))
    return faults


def string_signs(text):
    """How many signs all strings of a file have together."""
    strings = [node.value for node in ast.walk(ast.parse(text)) if isinstance(node, ast.Constant)]
    return sum(len(value) for value in strings if isinstance(value, (str, bytes)))


def faults_of_name(name, folder_names, at_top):
    """What is wrong with the name of a file or folder of the package."""
    stem, ending = os.path.splitext(name)
    if name not in folder_names and ending != ".py":
        return ["L1: no .py file"]
    faults = []
    if not re.fullmatch("[a-z0-9_]+", stem):
        faults.append("L14: no plain lower-case name")
    if name not in folder_names and stem in folder_names:
        faults.append("L14: the name of a folder beside it")
    if stem in BARRED_NAMES or stem.startswith(("law_", "test_")) or stem in dir(builtins):
        faults.append("L14: a name that is barred")
    if stem == "__main__" and not at_top:
        faults.append("L14: __main__.py stands only at the top")
    return faults


def faults_of_package(folder):
    """All faults of a package, as lines of text."""
    faults = []
    texts = {}
    for place, folders, files in os.walk(folder):
        folders[:] = sorted(name for name in folders if name != "__pycache__")
        if "__init__.py" not in files:
            faults.append("%s: L14: no __init__.py" % place)
        for name in folders + sorted(files):
            for fault in faults_of_name(name, folders, place == folder):
                faults.append("%s: %s" % (os.path.join(place, name), fault))
        for name in sorted(files):
            if name.endswith(".py"):
                path = os.path.join(place, name)
                with open(path, encoding="utf-8", newline="") as held:
                    texts[path] = held.read()
    for path, text in texts.items():
        for number, fault in faults_of_text(path, text):
            faults.append("%s:%d: %s" % (path, number, fault))
    if len(texts) > MOST_FILES:
        faults.append("%s: L14: more than %d files" % (folder, MOST_FILES))
    if sum(string_signs(text) for text in texts.values()) > MOST_STRING_SIGNS:
        faults.append("%s: L14: strings of more than %d signs" % (folder, MOST_STRING_SIGNS))
    return faults


def main():
    """Print the faults of the package named on the command line; the exit code tells of any."""
    faults = faults_of_package(sys.argv[1])
    for fault in faults:
        print(fault)
    return 1 if faults else 0


if __name__ == "__main__":
    sys.exit(main())
