"""The names and arguments of the interface, and where they are defined."""

import ast
import importlib
import inspect
import unittest

from common import book_of, code

FUNCTIONS = {
    "words": {
        "is_name": "(value)",
        "is_register": "(value)",
        "is_word": "(value)",
        "is_number": "(value, least, most)",
    },
    "rows": {
        "is_code_row": "(value)",
        "is_data_row": "(value)",
        "is_closing": "(row)",
        "name_in": "(row)",
        "row_text": "(row)",
        "read_row": "(text)",
    },
    "objects": {
        "wide_object": "(name, pieces, outside)",
    },
    "texts": {
        "unit_text": "(unit)",
        "units_text": "(units)",
        "read_units": "(text)",
        "read_unit": "(text)",
    },
    "halves": {
        "high_half": "(address)",
        "low_half": "(address)",
        "whole": "(high, low)",
        "signed": "(part)",
        "unsigned": "(value)",
        "wrapped": "(value)",
    },
    "cells": {
        "cell_of": "(word, r=0, s=0, part=0)",
        "parted": "(cell)",
        "with_part": "(cell, part)",
    },
    "forms": {
        "row_size": "(row, long=False)",
        "row_cells": "(row, at, target, long=False)",
        "row_fields": "(row, long=False)",
        "stub_cells": "(slot)",
        "placed": "(cell, field, address)",
    },
    "books": {
        "wide_book": "(units)",
    },
    "needs": {
        "is_need": "(book, value)",
        "check_needs": "(book, needs)",
        "check_roots": "(roots)",
        "check_reach": "(reach)",
        "live_pieces": "(book, needs)",
        "stub_names": "(needs)",
        "is_long": "(needs, place)",
    },
    "stretches": {
        "points": "(book, needs)",
        "laid": "(book, needs, lower, higher, start)",
        "stretch": "(book, needs, place, start)",
        "greatest_stretch": "(book, needs, place)",
    },
    "closure": {
        "needs_of": "(book, roots, *, reach=40)",
    },
    "chains": {
        "is_step": "(book, roots, value, *, reach=40)",
        "is_chain": "(book, roots, value, *, reach=40)",
    },
    "judging": {
        "missing_step": "(book, roots, needs, *, reach=40)",
        "is_closed": "(book, roots, needs, *, reach=40)",
        "judge": "(book, roots, needs, *, reach=40)",
    },
    "larger": {
        "is_larger": "(big, book)",
        "general_book": "(book, *, reach=40)",
        "outlook": "(book, roots, need, *, reach=40)",
        "witness": "(book, roots, need, *, reach=40)",
    },
    "images": {
        "link": "(book, roots, *, reach=40, page=16)",
        "image_of": "(book, roots, needs, *, reach=40, page=16)",
    },
    "listing": {
        "listing": "(image, base)",
    },
    "apart": {
        "taken_apart": "(image)",
    },
    "libraries": {
        "general_library": "(names, *, page=16)",
    },
    "values": {
        "is_address": "(value)",
        "sum_of": "(one, other)",
        "difference": "(one, other)",
        "in_place": "(value, cells)",
    },
    "desktexts": {
        "write_desk": "(desk)",
        "read_desk": "(text)",
    },
}
CLASSES = {
    "pieces": {
        "Piece": (
            "(name, part, rows, *, alignment=1, scope='local', keep=False)",
            {"rows": "(self)", "is_shared": "(self)", "is_strong": "(self)"},
            ["__eq__", "__len__", "__bool__", "__repr__"],
        ),
    },
    "objects": {
        "Object": (
            "(name, *pieces, outside=())",
            {"pieces": "(self)", "outside": "(self)", "piece": "(self, name)", "with_piece": "(self, piece)"},
            ["__contains__", "__eq__", "__len__", "__bool__", "__repr__"],
        ),
        "Archive": (
            "(name, *members)",
            {"members": "(self)", "member": "(self, name)"},
            ["__contains__", "__eq__", "__len__", "__bool__", "__repr__"],
        ),
    },
    "books": {
        "Book": (
            "(*units)",
            {
                "units": "(self)",
                "unit": "(self, name)",
                "with_unit": "(self, unit, at=None)",
                "without": "(self, name)",
                "ranked": "(self)",
                "piece": "(self, key)",
                "owner": "(self, key)",
                "drawable": "(self)",
                "answer": "(self, name)",
                "references": "(self, key)",
                "target": "(self, place)",
                "behind": "(self, place)",
                "known": "(self)",
                "text": "(self)",
            },
            ["__add__", "__iter__", "__contains__", "__eq__", "__len__", "__bool__", "__str__", "__repr__", "read"],
        ),
    },
    "closure": {
        "Closure": (
            "(book, roots, *, reach=40)",
            {
                "roots": "(self)",
                "ready": "(self)",
                "add": "(self, need)",
                "finish": "(self)",
                "needs": "(self)",
                "reason": "(self, need)",
                "chain": "(self, need)",
                "walk": "(self)",
                "widened": "(self, book)",
                "twin": "(self)",
            },
            ["finished", "__contains__", "__len__", "__bool__", "__repr__"],
        ),
    },
    "layout": {
        "Layout": (
            "(book, needs, *, page=16)",
            {
                "piece_offset": "(self, key)",
                "row_offset": "(self, place)",
                "stub_offset": "(self, name)",
                "slot_offset": "(self, name)",
                "place_at": "(self, offset)",
                "stub_at": "(self, offset)",
            },
            ["code_length", "data_offset", "size"],
        ),
    },
    "images": {
        "Image": (
            "(book, roots, needs, reach, page)",
            {
                "roots": "(self)",
                "needs": "(self)",
                "cells": "(self, base)",
                "records": "(self)",
                "exports": "(self)",
                "stubs": "(self)",
                "turnable": "(self)",
                "is_least": "(self)",
            },
            ["size", "__eq__", "__len__", "__bool__", "__repr__"],
        ),
    },
    "linkers": {
        "Linker": (
            "(book, roots, *, reach=40, page=16)",
            {
                "roots": "(self)",
                "needs": "(self)",
                "put": "(self, unit, at=None)",
                "take_off": "(self, name)",
                "image": "(self)",
                "twin": "(self)",
            },
            ["book", "begun", "__len__", "__bool__", "__repr__"],
        ),
    },
    "loading": {
        "Loaded": (
            "(*images, bases)",
            {
                "images": "(self)",
                "bases": "(self)",
                "exporter": "(self, name)",
                "where": "(self, address)",
                "cells": "(self)",
                "slots": "(self)",
                "entries": "(self)",
                "with_image": "(self, image, base)",
            },
            ["__len__", "__repr__"],
        ),
    },
    "plain": {
        "Plain": (
            "(loaded, name, *, image=0, early=False)",
            {
                "place": "(self)",
                "frames": "(self)",
                "registers": "(self)",
                "outputs": "(self)",
                "content": "(self, key, *, image=0)",
                "order": "(self)",
                "bound": "(self)",
                "step": "(self)",
                "run": "(self, most=200)",
                "opened": "(self, image, *, ahead=False)",
                "rewrite": "(self, key, rows, *, image=0)",
                "take_back": "(self, key, *, image=0)",
                "editions": "(self, key, *, image=0)",
                "twin": "(self)",
            },
            ["ended", "__repr__"],
        ),
    },
    "machine": {
        "Machine": (
            "(loaded, name, *, image=0, early=False)",
            {
                "place": "(self)",
                "frames": "(self)",
                "registers": "(self)",
                "outputs": "(self)",
                "cell_at": "(self, address)",
                "step": "(self)",
                "run": "(self, most=1000)",
                "opened": "(self, image, base, *, ahead=False)",
                "add_room": "(self, many)",
                "write": "(self, address, cells)",
                "ends": "(self)",
                "twin": "(self)",
            },
            ["ended", "__repr__"],
        ),
    },
    "runs": {
        "Run": (
            "(loaded, name, *, image=0, early=False)",
            {
                "plain": "(self)",
                "machine": "(self)",
                "place": "(self)",
                "frames": "(self)",
                "registers": "(self)",
                "outputs": "(self)",
                "cell_place": "(self)",
                "cell_frames": "(self)",
                "word_of": "(self, value)",
                "entry_of": "(self, place)",
                "place_at": "(self, address)",
                "step": "(self)",
                "run": "(self, most=200)",
                "run_to": "(self, place, most=200)",
                "opened": "(self, image, base, *, ahead=False)",
                "rewrite": "(self, key, rows, *, image=0)",
                "take_back": "(self, key, *, image=0)",
                "editions": "(self, key, *, image=0)",
                "agrees": "(self)",
                "twin": "(self)",
            },
            ["ended", "loaded", "__repr__"],
        ),
    },
    "desk": {
        "Desk": (
            "()",
            {
                "do": "(self, *deeds)",
                "undo": "(self)",
                "redo": "(self)",
                "history": "(self)",
                "roots": "(self)",
                "held_run": "(self)",
                "image": "(self)",
                "tried": "(self, *deeds)",
                "text": "(self)",
                "say": "(self, line)",
                "__call__": "(self, line)",
                "log": "(self)",
                "twin": "(self)",
            },
            ["book", "reach", "page", "busy", "__eq__", "__len__", "__bool__", "__repr__"],
        ),
    },
}
PROPERTIES = {
    "closure": {"Closure": ["finished"]},
    "layout": {"Layout": ["code_length", "data_offset", "size"]},
    "images": {"Image": ["size"]},
    "linkers": {"Linker": ["book", "begun"]},
    "plain": {"Plain": ["ended"]},
    "machine": {"Machine": ["ended"]},
    "runs": {"Run": ["ended", "loaded"]},
    "desk": {"Desk": ["book", "reach", "page", "busy"]},
}
STATIC = {"books": {"Book": {"read": "(text)"}}}
GENERATORS = {"closure": {"Closure": ["walk"]}}


def module(name):
    return importlib.import_module("leastimage." + name)


def imported(name, seen):
    """The modules of the package that a module imports, itself or through others."""
    with open(importlib.import_module(name).__file__, encoding="utf-8") as held:
        tree = ast.parse(held.read())
    for node in tree.body:
        if isinstance(node, ast.ImportFrom) and node.module not in seen:
            seen[node.module] = True
            imported(node.module, seen)
    return seen


class InterfaceTest(unittest.TestCase):
    def test_functions(self):
        for file, functions in FUNCTIONS.items():
            for name, signature in functions.items():
                with self.subTest(file=file, name=name):
                    found = getattr(module(file), name)
                    self.assertTrue(inspect.isfunction(found))
                    self.assertEqual(found.__module__, "leastimage." + file)
                    self.assertEqual(str(inspect.signature(found)), signature)

    def test_classes(self):
        for file, classes in CLASSES.items():
            for name, (signature, methods, signs) in classes.items():
                with self.subTest(file=file, name=name):
                    found = getattr(module(file), name)
                    self.assertTrue(inspect.isclass(found))
                    self.assertEqual(found.__module__, "leastimage." + file)
                    self.assertEqual(str(inspect.signature(found)), signature)
                    for sign in signs:
                        self.assertIn(sign, vars(found))
                    for method, told in methods.items():
                        self.assertEqual(str(inspect.signature(vars(found)[method])), told, method)

    def test_properties(self):
        for file, classes in PROPERTIES.items():
            for name, names in classes.items():
                for told in names:
                    self.assertIsInstance(vars(getattr(module(file), name))[told], property)

    def test_attributes(self):
        """Attributes are read off each object from when it is created."""
        book = module("books").Book()
        program = book_of("object o; code a 1 export; halt; end")
        image = module("images").link(program, ["a"], reach=7, page=32)
        library = module("libraries").general_library(["a"], page=64)
        piece = {"name": "a", "part": "code", "alignment": 1, "scope": "local", "keep": False}
        for found, told in (
            (code("a"), piece),
            (module("objects").Object("a"), {"name": "a"}),
            (module("objects").wide_object("a", [], []), {"name": "a"}),
            (module("objects").Archive("a"), {"name": "a"}),
            (module("closure").Closure(book, ["a"]), {"book": book, "reach": 40}),
            (module("closure").Closure(program, ["a"], reach=7), {"book": program, "reach": 7}),
            (module("layout").Layout(book, []), {"page": 16}),
            (module("layout").Layout(program, [], page=64), {"page": 64}),
            (image, {"book": program, "layout": image.layout, "reach": 7, "page": 32}),
            (library, {"book": library.book, "layout": library.layout, "reach": 40, "page": 64}),
            (module("linkers").Linker(book, ["a"]), {"reach": 40, "page": 16}),
            (module("linkers").Linker(program, ["a"], reach=7, page=32), {"reach": 7, "page": 32}),
        ):
            for name, value in told.items():
                self.assertEqual(getattr(found, name), value, (found, name))
        self.assertIsInstance(image.layout, module("layout").Layout)
        self.assertIsInstance(library.book, module("books").Book)

    def test_constants(self):
        self.assertEqual(module("forms").STUB, 4)
        self.assertEqual([len(module("cells").CODES), isinstance(module("cells").CODES, tuple)], [16, True])

    def test_desks_are_called_by_name_too(self):
        desk = module("desk").Desk()
        self.assertEqual([desk(line="units"), desk.say(line="units")], ["none", "none"])

    def test_modules_need_only_those_above_them(self):
        """The order of the modules of the document, each of which needs only earlier ones."""
        order = "errors words rows pieces objects texts halves cells forms books needs stretches closure chains judging"
        order += " larger layout images listing apart linkers loading libraries values plain machine runs desk desktexts"
        order = order.split()
        for at, name in enumerate(order):
            for found in imported("leastimage." + name, {}):
                inner = found.split(".")[1]
                self.assertTrue(inner not in order or order.index(inner) < at, (name, inner))

    def test_static_methods(self):
        for file, classes in STATIC.items():
            for name, names in classes.items():
                for told, signature in names.items():
                    found = vars(getattr(module(file), name))[told]
                    self.assertIsInstance(found, staticmethod)
                    self.assertEqual(str(inspect.signature(found.__func__)), signature)

    def test_generator_functions(self):
        self.assertTrue(inspect.isgeneratorfunction(module("listing").listing))

    def test_generators(self):
        for file, classes in GENERATORS.items():
            for name, names in classes.items():
                for told in names:
                    self.assertTrue(inspect.isgeneratorfunction(vars(getattr(module(file), name))[told]))

    def test_errors_are_defined_in_their_file(self):
        for _, found in inspect.getmembers(module("errors"), inspect.isclass):
            self.assertEqual(found.__module__, "leastimage.errors")


if __name__ == "__main__":
    unittest.main()
