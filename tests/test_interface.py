"""The interface: each name with its arguments, in the file and in the class under which it is listed."""

import ast
import importlib
import inspect
import pathlib
import unittest

import pagesatonce

CONSTANTS = {
    "names": {"NAME_MOST": 6, "TEXT_MOST": 60, "SOURCES_MOST": 12, "PAGES_MOST": 6},
    "rendering": {"RESULT_MOST": 200, "NOTHING": ("text", "?", ())},
    "cache": {"RENDERINGS_MOST": 4},
    "disks": {"BLOCK": 32, "BLOCKS_MOST": 400},
    "blocks": {"PIECE": 24, "PIECES_MOST": 15},
}

FUNCTIONS = {
    "names": ["is_name(text)", "is_text(text)", "is_after(one, other)", "are_pages(names)", "failures(text)"],
    "segments": ["split(name, text)", "join(segments)"],
    "rendering": [
        "dependencies(sources, attempts, name)", "result(sources, attempts, name)",
        "join_result(name, text, attempts, found)", "required(sources, attempts, pages)",
    ],
    "closing": ["closed(pages, results)", "publish(sources, attempts, pages)"],
    "options": [
        "check_options(options)", "duration(options, many)", "delay(options, attempt)", "longest_rendering(options)",
        "longest_latency(options)",
    ],
    "records": ["write_edit(edit)", "write_record(record)", "read_edit(text)", "read_record(text)"],
    "blocks": ["encode_record(number, text)", "decode_piece(block)"],
    "log": ["format_disk(disk, options)", "open_log(disk)"],
}

CLASSES = {
    ("errors", "OutOfRange"): ["__init__(self, name)"],
    ("cache", "Cache"): [
        "__init__(self)", "add(self, rendering)", "renderings(self, name)", "keep(self, names)",
        "find(self, name, text, found)",
    ],
    ("snapshots", "Snapshot"): [
        "__init__(self, sources, pages, attempts, cache)", "known(self, name)", "told(self, name)", "required(self)",
        "renderable(self)", "is_ready(self)",
    ],
    ("timers", "Timers"): [
        "__init__(self)", "put(self, key, due)", "remove(self, key)", "due(self, key)", "first(self)", "keys(self)",
    ],
    ("publisher", "Publisher"): [
        "__init__(self, options, clock=0)", "edit(self, edit)", "advance(self, ticks)", "turn(self, last)",
        "resume(self, edits, version)", "clock(self)", "count(self)", "sources(self)", "pages(self)", "version(self)",
        "published(self)", "state(self)", "dirty_since(self)", "next_due(self)", "jobs(self)", "renderings(self, name)",
        "required(self)", "attempts_made(self)",
    ],
    ("disks", "Disk"): [
        "__init__(self, blocks)", "size(self)", "read(self, at)", "write(self, at, block)", "flush(self)",
        "pending_count(self)", "cut_count(self)", "cut_power(self, torn)", "schedule_cut(self, many, torn)",
    ],
    ("log", "Log"): ["records(self)", "append(self, record)", "room(self, record)", "sync(self)", "free_blocks(self)"],
    ("house", "House"): [
        "__init__(self, disk)", "edit(self, edit)", "advance(self, ticks)", "sync(self)", "version(self)", "clock(self)",
        "count(self)", "free_blocks(self)", "sources(self)", "pages(self)", "state(self)", "next_due(self)",
        "history(self)", "letters(self)",
    ],
    ("mirrors", "Mirror"): ["__init__(self)", "hear(self, letter)", "shown(self)", "page(self, name)"],
    ("link", "Link"): [
        "__init__(self, options, mirrors, blocks)", "edit(self, edit)", "advance(self, ticks)", "sync(self)",
        "version(self)", "clock(self)", "count(self)", "history(self)", "next_due(self)", "state(self)", "post(self)",
        "letters(self)", "drop(self, at)", "duplicate(self, at)", "deliver(self, at)", "shown(self, mirror)",
        "page(self, mirror, name)", "is_open(self)", "cut_power(self, torn)", "schedule_cut(self, many, torn)",
        "reopen(self)",
    ],
}


def module(name):
    return importlib.import_module(f"pagesatonce.{name}")


class Interface(unittest.TestCase):
    def test_constants(self):
        for name, constants in CONSTANTS.items():
            for constant, value in constants.items():
                self.assertEqual(getattr(module(name), constant), value)

    def test_functions(self):
        for name, functions in FUNCTIONS.items():
            for wanted in functions:
                function = getattr(module(name), wanted.partition("(")[0])
                self.assertEqual(function.__module__, f"pagesatonce.{name}")
                self.assertEqual(function.__name__ + str(inspect.signature(function)), wanted)

    def test_classes(self):
        for (name, class_name), methods in CLASSES.items():
            listed = getattr(module(name), class_name)
            self.assertEqual((listed.__module__, listed.__name__), (f"pagesatonce.{name}", class_name))
            for wanted in methods:
                # In the class itself, not in a base class.
                method = vars(listed)[wanted.partition("(")[0]]
                self.assertEqual(method.__name__ + str(inspect.signature(method)), wanted)


class Files(unittest.TestCase):
    """What the rules for the program's files say of their sizes, characters and imports."""

    def files(self):
        return sorted(pathlib.Path(pagesatonce.__file__).parent.glob("*.py"))

    def test_sizes_and_characters(self):
        for path in self.files():
            text = path.read_text(encoding="utf-8")
            self.assertTrue(all(sign == "\n" or " " <= sign <= "~" for sign in text), path)
            lines = text.split("\n")
            self.assertLessEqual(len(lines), 400, path)
            self.assertLessEqual(max(map(len, lines)), 120, path)
            for node in ast.walk(ast.parse(text)):
                if isinstance(node, ast.FunctionDef):
                    self.assertLessEqual(node.end_lineno - node.lineno + 1, 40, (path, node.name))

    def test_imports_are_of_the_package_alone(self):
        for path in self.files():
            for node in ast.walk(ast.parse(path.read_text(encoding="utf-8"))):
                self.assertNotIsInstance(node, ast.Import, path)
                if isinstance(node, ast.ImportFrom):
                    self.assertEqual((node.level, node.module.split(".")[0]), (0, "pagesatonce"), path)
                    for name in node.names:
                        # By its own name, from the file that defines it.
                        self.assertIsNone(name.asname)
                        value = getattr(importlib.import_module(node.module), name.name)
                        self.assertEqual(getattr(value, "__module__", node.module), node.module)


if __name__ == "__main__":
    unittest.main()
