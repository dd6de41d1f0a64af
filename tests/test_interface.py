"""The names and arguments of the interface, and where they are defined."""

import importlib
import inspect
import unittest

FUNCTIONS = {
    "words": {
        "is_name": "(value)",
        "is_register": "(value)",
        "is_word": "(value)",
        "is_number": "(value, least, most)",
    },
    "rows": {
        "is_code_row": "(value)",
        "is_data_row": "(value)",
        "is_closing": "(row)",
        "name_in": "(row)",
        "row_text": "(row)",
        "read_row": "(text)",
    },
    "objects": {
        "wide_object": "(name, pieces, outside)",
    },
    "texts": {
        "unit_text": "(unit)",
        "units_text": "(units)",
        "read_units": "(text)",
        "read_unit": "(text)",
    },
    "halves": {
        "high_half": "(address)",
        "low_half": "(address)",
        "whole": "(high, low)",
        "signed": "(part)",
        "unsigned": "(value)",
        "wrapped": "(value)",
    },
    "cells": {
        "cell_of": "(word, r=0, s=0, part=0)",
        "parted": "(cell)",
        "with_part": "(cell, part)",
    },
    "forms": {
        "row_size": "(row, long=False)",
        "row_cells": "(row, at, target, long=False)",
        "row_fields": "(row, long=False)",
        "stub_cells": "(slot)",
        "placed": "(cell, field, address)",
    },
    "books": {
        "wide_book": "(units)",
    },
    "needs": {
        "is_need": "(book, value)",
        "check_needs": "(book, needs)",
        "check_roots": "(roots)",
        "check_reach": "(reach)",
        "live_pieces": "(book, needs)",
        "stub_names": "(needs)",
        "is_long": "(needs, place)",
    },
    "stretches": {
        "points": "(book, needs)",
        "laid": "(book, needs, lower, higher, start)",
        "stretch": "(book, needs, place, start)",
        "greatest_stretch": "(book, needs, place)",
    },
    "closure": {
        "needs_of": "(book, roots, *, reach=40)",
    },
    "chains": {
        "is_step": "(book, roots, value, *, reach=40)",
        "is_chain": "(book, roots, value, *, reach=40)",
    },
    "judging": {
        "missing_step": "(book, roots, needs, *, reach=40)",
        "is_closed": "(book, roots, needs, *, reach=40)",
        "judge": "(book, roots, needs, *, reach=40)",
    },
    "larger": {
        "is_larger": "(big, book)",
        "general_book": "(book, *, reach=40)",
        "outlook": "(book, roots, need, *, reach=40)",
        "witness": "(book, roots, need, *, reach=40)",
    },
    "images": {
        "link": "(book, roots, *, reach=40, page=16)",
        "image_of": "(book, roots, needs, *, reach=40, page=16)",
    },
    "listing": {
        "listing": "(image, base)",
    },
}
CLASSES = {
    "pieces": {
        "Piece": (
            "(name, part, rows, *, alignment=1, scope='local', keep=False)",
            {"rows": "(self)", "is_shared": "(self)", "is_strong": "(self)"},
            ["__eq__", "__len__", "__bool__", "__repr__"],
        ),
    },
    "objects": {
        "Object": (
            "(name, *pieces, outside=())",
            {"pieces": "(self)", "outside": "(self)", "piece": "(self, name)", "with_piece": "(self, piece)"},
            ["__contains__", "__eq__", "__len__", "__bool__", "__repr__"],
        ),
        "Archive": (
            "(name, *members)",
            {"members": "(self)", "member": "(self, name)"},
            ["__contains__", "__eq__", "__len__", "__bool__", "__repr__"],
        ),
    },
    "books": {
        "Book": (
            "(*units)",
            {
                "units": "(self)",
                "unit": "(self, name)",
                "with_unit": "(self, unit, at=None)",
                "without": "(self, name)",
                "ranked": "(self)",
                "piece": "(self, key)",
                "owner": "(self, key)",
                "drawable": "(self)",
                "answer": "(self, name)",
                "references": "(self, key)",
                "target": "(self, place)",
                "behind": "(self, place)",
                "known": "(self)",
                "text": "(self)",
            },
            ["__add__", "__iter__", "__contains__", "__eq__", "__len__", "__bool__", "__str__", "__repr__", "read"],
        ),
    },
    "closure": {
        "Closure": (
            "(book, roots, *, reach=40)",
            {
                "roots": "(self)",
                "ready": "(self)",
                "add": "(self, need)",
                "finish": "(self)",
                "needs": "(self)",
                "reason": "(self, need)",
                "chain": "(self, need)",
                "walk": "(self)",
                "widened": "(self, book)",
                "twin": "(self)",
            },
            ["finished", "__contains__", "__len__", "__bool__", "__repr__"],
        ),
    },
    "layout": {
        "Layout": (
            "(book, needs, *, page=16)",
            {
                "piece_offset": "(self, key)",
                "row_offset": "(self, place)",
                "stub_offset": "(self, name)",
                "slot_offset": "(self, name)",
                "place_at": "(self, offset)",
                "stub_at": "(self, offset)",
            },
            ["code_length", "data_offset", "size"],
        ),
    },
    "images": {
        "Image": (
            "(book, roots, needs, reach, page)",
            {
                "roots": "(self)",
                "needs": "(self)",
                "cells": "(self, base)",
                "records": "(self)",
                "exports": "(self)",
                "stubs": "(self)",
                "turnable": "(self)",
                "is_least": "(self)",
            },
            ["size", "__eq__", "__len__", "__bool__", "__repr__"],
        ),
    },
}
PROPERTIES = {
    "closure": {"Closure": ["finished"]},
    "layout": {"Layout": ["code_length", "data_offset", "size"]},
    "images": {"Image": ["size"]},
}
STATIC = {"books": {"Book": {"read": "(text)"}}}
GENERATORS = {"closure": {"Closure": ["walk"]}}


def module(name):
    return importlib.import_module("leastimage." + name)


class InterfaceTest(unittest.TestCase):
    def test_functions(self):
        for file, functions in FUNCTIONS.items():
            for name, signature in functions.items():
                with self.subTest(file=file, name=name):
                    found = getattr(module(file), name)
                    self.assertTrue(inspect.isfunction(found))
                    self.assertEqual(found.__module__, "leastimage." + file)
                    self.assertEqual(str(inspect.signature(found)), signature)

    def test_classes(self):
        for file, classes in CLASSES.items():
            for name, (signature, methods, signs) in classes.items():
                with self.subTest(file=file, name=name):
                    found = getattr(module(file), name)
                    self.assertTrue(inspect.isclass(found))
                    self.assertEqual(found.__module__, "leastimage." + file)
                    self.assertEqual(str(inspect.signature(found)), signature)
                    for sign in signs:
                        self.assertIn(sign, vars(found))
                    for method, told in methods.items():
                        self.assertEqual(str(inspect.signature(vars(found)[method])), told, method)

    def test_properties(self):
        for file, classes in PROPERTIES.items():
            for name, names in classes.items():
                for told in names:
                    self.assertIsInstance(vars(getattr(module(file), name))[told], property)

    def test_static_methods(self):
        for file, classes in STATIC.items():
            for name, names in classes.items():
                for told, signature in names.items():
                    found = vars(getattr(module(file), name))[told]
                    self.assertIsInstance(found, staticmethod)
                    self.assertEqual(str(inspect.signature(found.__func__)), signature)

    def test_generator_functions(self):
        self.assertTrue(inspect.isgeneratorfunction(module("listing").listing))

    def test_generators(self):
        for file, classes in GENERATORS.items():
            for name, names in classes.items():
                for told in names:
                    self.assertTrue(inspect.isgeneratorfunction(vars(getattr(module(file), name))[told]))

    def test_errors_are_defined_in_their_file(self):
        for _, found in inspect.getmembers(module("errors"), inspect.isclass):
            self.assertEqual(found.__module__, "leastimage.errors")


if __name__ == "__main__":
    unittest.main()
