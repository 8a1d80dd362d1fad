"""Each name of the interface stands in its own file, and each method in its own class."""

import importlib
import inspect
import unittest

MODULES = {
    "sumsalone.errors": "SumError InvalidSums InvalidTable InvalidWeb InvalidTournament InvalidFilling "
                        "InvalidOperation InvalidCommand ParseError UnknownName InvalidNumber NothingToUndo "
                        "Refused TooMany",
    "sumsalone.base.words": "is_name",
    "sumsalone.base.things": "Table Web Tournament is_sums is_thing sums_of",
    "sumsalone.rows.rows": "is_row sorted_row prefix_sums excess is_under bar is_bar Order",
}
METHODS = {
    ("sumsalone.base.things", "Table"): "of cap lines line_sums column_sums units sums cell with_cell flipped opposite "
                                        "__init__ __len__ __eq__ __str__",
    ("sumsalone.base.things", "Web"): "of places ties degrees sums beside are_tied with_change opposite "
                                      "__init__ __len__ __eq__ __str__",
    ("sumsalone.base.things", "Tournament"): "of players beaten scores sums beats with_change opposite "
                                             "__init__ __len__ __eq__ __str__",
    ("sumsalone.rows.rows", "Order"): "length total greatest least meet join covered rows "
                                      "__init__ __contains__ __eq__ __str__",
}
PARAMETERS = {
    "sumsalone.base.words.is_name": "(value)",
    "sumsalone.base.things.is_sums": "(value)",
    "sumsalone.base.things.is_thing": "(sums, value)",
    "sumsalone.base.things.sums_of": "(thing)",
    "sumsalone.rows.rows.is_row": "(value)",
    "sumsalone.rows.rows.sorted_row": "(row)",
    "sumsalone.rows.rows.prefix_sums": "(row)",
    "sumsalone.rows.rows.excess": "(row, number)",
    "sumsalone.rows.rows.is_under": "(one, other)",
    "sumsalone.rows.rows.bar": "(one, other)",
    "sumsalone.rows.rows.is_bar": "(one, other, value)",
    "sumsalone.rows.rows.Order": "(length, total)",
    "sumsalone.base.things.Table": "(cap, *lines)",
    "sumsalone.base.things.Web": "(places, *ties)",
    "sumsalone.base.things.Tournament": "(*beaten)",
}


class Interface(unittest.TestCase):
    def test_names_are_defined_in_their_files(self):
        for module, names in MODULES.items():
            for name in names.split():
                self.assertEqual(getattr(importlib.import_module(module), name).__module__, module)

    def test_methods_are_defined_in_their_classes(self):
        for (module, name), methods in METHODS.items():
            body = vars(getattr(importlib.import_module(module), name))
            for method in methods.split():
                self.assertIn(method, body, name)

    def test_parameters(self):
        for path, told in PARAMETERS.items():
            module, name = path.rsplit(".", 1)
            self.assertEqual(str(inspect.signature(getattr(importlib.import_module(module), name))), told)
