"""The interface: each name, its arguments, and the file that defines it."""

import importlib
import inspect
import unittest

from sharepack.books import Book
from sharepack.packing import Learner, Packer, Unpacker

FUNCTIONS = [
    ("shares", "counted", ["signs", "block"]),
    ("shares", "learnt", ["shares", "counts", "cap"]),
    ("pairing", "pairs", ["shares"]),
    ("pairing", "codes", ["shares"]),
    ("pairing", "cost", ["shares"]),
    ("packing", "pack", ["book", "text"]),
    ("packing", "unpack", ["book", "bits", "many"]),
    ("telling", "report", ["book", "text"]),
    ("telling", "written", ["book", "text"]),
    ("telling", "read", ["book", "line"]),
]

CLASSES = [
    ("books", "Book", ["signs", "size", "cap"]),
    ("packing", "Learner", ["book"]),
    ("packing", "Packer", ["book"]),
    ("packing", "Unpacker", ["book", "many"]),
]

METHODS = [
    ("Learner", "took", ["self", "sign"]),
    ("Packer", "put", ["self", "part"]),
    ("Unpacker", "put", ["self", "bits"]),
]


class InterfaceTest(unittest.TestCase):
    def test_functions_and_classes(self):
        for file, name, arguments in FUNCTIONS + CLASSES:
            with self.subTest(name=name):
                found = getattr(importlib.import_module("sharepack." + file), name)
                self.assertEqual(list(inspect.signature(found).parameters), arguments)
                self.assertEqual((found.__module__, found.__name__), ("sharepack." + file, name))

    def test_methods_stand_in_their_own_class(self):
        packing = importlib.import_module("sharepack.packing")
        for owner, name, arguments in METHODS:
            with self.subTest(owner=owner, name=name):
                found = vars(getattr(packing, owner))[name]
                self.assertEqual(list(inspect.signature(found).parameters), arguments)

    def test_attributes_are_set_when_an_object_is_created(self):
        book = Book("ab", 2, 9)
        for held, names in ((book, ["signs", "size", "cap"]), (Learner(book), ["shares", "words", "waits"]),
                            (Packer(book), ["learner"]), (Unpacker(book, 3), ["learner", "left"])):
            for name in names:
                with self.subTest(held=held, name=name):
                    self.assertIn(name, vars(held))
        self.assertIs(type(Packer(book).learner), Learner)
        self.assertIs(type(Unpacker(book, 3).learner), Learner)


if __name__ == "__main__":
    unittest.main()
