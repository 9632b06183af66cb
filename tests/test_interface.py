"""The interface of the document: every name in its file, with as many arguments as told."""

import importlib
import inspect
import unittest

FUNCTIONS = {
    "shares": {"is_share": 1},
    "spots": {"is_spot": 1, "weighted": 2, "blended": 3, "toned": 3, "straight": 1, "levels": 1},
    "sheets": {
        "is_sheet": 1, "spot_at": 3, "plain_sheet": 3, "part_of": 5, "mirrored": 1, "turned": 1, "blended_sheets": 3,
    },
    "pictures": {"is_node": 1, "is_picture": 1, "names_in": 1, "node_named": 2, "with_node": 3},
    "flats": {"flat_at": 3, "flat": 1},
    "seen": {"needless": 1, "without": 2},
    "merging": {"merged": 2, "opened": 2, "swapped": 2},
    "boxes": {"joined_box": 2, "box_of": 2, "changed_box": 2},
    "deeds": {"is_deed": 1, "done": 2, "contrary": 1, "exchanged": 2},
    "writing": {"written": 1},
    "reading": {"read": 1},
    "counting": {"kinds_in": 1, "unlike_places": 2, "mean_spot": 1, "seen_box": 1},
    "tiling": {"set_beside": 2, "set_below": 2, "grown": 2},
    "foliotexts": {"folio_text": 1, "read_folio": 1},
}

# Of each class what it is made of, and its methods, all without self.
CLASSES = {
    ("painter", "Painter"): (1, {"give": 1, "shown": 0, "now": 0, "painted": 0}),
    ("journals", "Journal"): (1, {"do": 1, "now": 0, "beginning": 0, "deeds": 0, "held_by": 1, "take_back": 1}),
    ("folios", "Folio"): (0, {
        "lay": 2, "fetch": 1, "take_off": 1, "blend": 3, "names": 0, "back": 0, "forth": 0, "counts": 0, "twin": 0,
    }),
}


def arguments_of(function):
    return len(inspect.signature(function).parameters)


class Interface(unittest.TestCase):
    def test_functions(self):
        for file, functions in FUNCTIONS.items():
            module = importlib.import_module("glazework." + file)
            for name, many in functions.items():
                self.assertEqual(arguments_of(getattr(module, name)), many, name)

    def test_classes(self):
        for (file, name), (many, methods) in CLASSES.items():
            kind = getattr(importlib.import_module("glazework." + file), name)
            self.assertIsInstance(kind, type)
            self.assertEqual(arguments_of(kind), many, name)
            for method, arguments in methods.items():
                self.assertEqual(arguments_of(getattr(kind, method)), arguments + 1, method)


if __name__ == "__main__":
    unittest.main()
