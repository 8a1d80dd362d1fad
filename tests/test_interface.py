"""Each name of the interface stands in its own file, and each method in its own class."""

import importlib
import inspect
import unittest

MODULES = {
    "sumsalone.errors": "SumError InvalidSums InvalidTable InvalidWeb InvalidTournament InvalidFilling "
                        "InvalidOperation InvalidCommand ParseError UnknownName InvalidNumber NothingToUndo "
                        "Refused TooMany",
    "sumsalone.base.words": "is_name",
    "sumsalone.base.things": "Table Web Tournament is_sums is_thing sums_of",
    "sumsalone.rows.rows": "is_row sorted_row prefix_sums excess is_under bar is_bar Order",
    "sumsalone.rows.roads": "is_arranged_alike arranged after units road is_road fewest_units",
    "sumsalone.rows.turned": "turned is_closed moves_needed least_within is_less filled_up",
    "sumsalone.tables.making": "greatest_row filled_table has_table made_table table_paper is_table_paper",
    "sumsalone.tables.placing": "most_units most_paper is_most_paper fewest_taken nearest_sums",
    "sumsalone.webs.rows": "lack greatest_lack has_web web_paper is_web_paper partners left_after web_of",
    "sumsalone.webs.nested": "web_of_word word_of is_nested_row nested_rows over is_over",
    "sumsalone.webs.near": "fewest_away nearest is_nearest table_of_web web_from",
    "sumsalone.wins.scores": "has_tournament greatest_deficit score_paper is_score_paper tournament_of nearest_scores",
    "sumsalone.wins.parts": "strong_parts is_strong count_rings parts_in rings_in row_through ring_through "
                            "is_row_through is_ring_through",
    "sumsalone.wins.halves": "table_of_tournament is_half_table halved",
    "sumsalone.roads.carried": "row_of count_moves moved is_move carried is_carrying is_highest raised is_raising",
    "sumsalone.roads.exchanges": "distance each_exchange count_exchanges is_exchange nearer is_nearer split is_split "
                                 "exchange_road is_exchange_road",
    "sumsalone.sure.forced": "is_possible with_more with_less state_of states forced_paper is_forced_paper parts_of "
                             "is_alone",
    "sumsalone.both.parted": "is_level rest_of has_part parted_paper is_parted_paper",
    "sumsalone.both.apart": "lessened most_apart apart_paper is_apart_paper first_cover",
    "sumsalone.both.joined": "is_joined is_firm can_join joined_paper is_joined_paper can_be_firm firm_paper "
                             "is_firm_paper",
    "sumsalone.fill.fillings": "is_shape turned_shape is_filling shape_of entry_counts count_fillings each_filling",
    "sumsalone.fill.insertion": "Press fillings_of table_of",
    "sumsalone.count.counts": "count_things each_thing shape_counts",
    "sumsalone.across.bridges": "web_of_table tournament_of_table web_of_sides table_of_sides opposite_sums",
    "sumsalone.across.even": "even_step back_step steps_between",
    "sumsalone.text.texts": "write read",
    "sumsalone.house.bench": "Bench",
    "sumsalone.text.shell": "Shell",
}
CONSTANTS = {
    "sumsalone.base.things": {"MAX_CAP": 9, "MAX_LINES": 12, "MAX_PLACES": 16},
    "sumsalone.rows.rows": {"MAX_LENGTH": 64, "MAX_TOTAL": 20},
    "sumsalone.wins.scores": {"MAX_PLAYERS": 16, "MAX_ROW": 64},
    "sumsalone.fill.fillings": {"MAX_CELLS": 42, "MAX_ENTRIES": 8},
    "sumsalone.text.shell": {"MAX_THINGS": 8},
}
METHODS = {
    ("sumsalone.base.things", "Table"): "of cap lines line_sums column_sums units sums cell with_cell flipped opposite "
                                        "__init__ __len__ __eq__ __str__",
    ("sumsalone.base.things", "Web"): "of places ties degrees sums beside are_tied with_change opposite "
                                      "__init__ __len__ __eq__ __str__",
    ("sumsalone.base.things", "Tournament"): "of players beaten scores sums beats with_change opposite "
                                             "__init__ __len__ __eq__ __str__",
    ("sumsalone.rows.rows", "Order"): "length total greatest least meet join covered rows "
                                      "__init__ __contains__ __eq__ __str__",
    ("sumsalone.fill.insertion", "Press"): "of lines columns left right pairs put back __init__ __len__ __eq__ __str__",
    ("sumsalone.house.bench", "Bench"): "thing sums row promises deeds promise forget put turn carry undo redo trial "
                                        "during twin __init__ __getitem__ __contains__ __len__ __eq__ __str__",
    ("sumsalone.text.shell", "Shell"): "run names things script replayed "
                                       "__init__ __call__ __contains__ __len__ __eq__ __str__",
}
PARAMETERS = {
    "sumsalone.base.words.is_name": "(value)",
    "sumsalone.base.things.is_sums": "(value)",
    "sumsalone.base.things.is_thing": "(sums, value)",
    "sumsalone.base.things.sums_of": "(thing)",
    "sumsalone.rows.rows.is_row": "(value)",
    "sumsalone.rows.rows.sorted_row": "(row)",
    "sumsalone.rows.rows.prefix_sums": "(row)",
    "sumsalone.rows.rows.excess": "(row, number)",
    "sumsalone.rows.rows.is_under": "(one, other)",
    "sumsalone.rows.rows.bar": "(one, other)",
    "sumsalone.rows.rows.is_bar": "(one, other, value)",
    "sumsalone.rows.rows.Order": "(length, total)",
    "sumsalone.rows.roads.is_arranged_alike": "(one, other)",
    "sumsalone.rows.roads.arranged": "(row, like)",
    "sumsalone.rows.roads.after": "(row, road)",
    "sumsalone.rows.roads.units": "(road)",
    "sumsalone.rows.roads.road": "(row, lower)",
    "sumsalone.rows.roads.is_road": "(row, lower, value)",
    "sumsalone.rows.roads.fewest_units": "(row, lower)",
    "sumsalone.rows.turned.turned": "(row, many, *, cap=1)",
    "sumsalone.rows.turned.is_closed": "(row, many, *, cap=1)",
    "sumsalone.rows.turned.moves_needed": "(one, other)",
    "sumsalone.rows.turned.least_within": "(row, many)",
    "sumsalone.rows.turned.is_less": "(one, other)",
    "sumsalone.rows.turned.filled_up": "(one, other)",
    "sumsalone.tables.making.greatest_row": "(cap, columns, many)",
    "sumsalone.tables.making.filled_table": "(cap, columns, many)",
    "sumsalone.tables.making.has_table": "(cap, lines, columns)",
    "sumsalone.tables.making.made_table": "(sums)",
    "sumsalone.tables.making.table_paper": "(sums)",
    "sumsalone.tables.making.is_table_paper": "(sums, value)",
    "sumsalone.tables.placing.most_units": "(sums)",
    "sumsalone.tables.placing.most_paper": "(sums)",
    "sumsalone.tables.placing.is_most_paper": "(sums, value)",
    "sumsalone.tables.placing.fewest_taken": "(sums)",
    "sumsalone.tables.placing.nearest_sums": "(sums)",
    "sumsalone.webs.rows.lack": "(degrees, places)",
    "sumsalone.webs.rows.greatest_lack": "(degrees)",
    "sumsalone.webs.rows.has_web": "(degrees)",
    "sumsalone.webs.rows.web_paper": "(degrees)",
    "sumsalone.webs.rows.is_web_paper": "(degrees, value)",
    "sumsalone.webs.rows.partners": "(degrees, place)",
    "sumsalone.webs.rows.left_after": "(degrees, place)",
    "sumsalone.webs.rows.web_of": "(degrees)",
    "sumsalone.webs.nested.web_of_word": "(word)",
    "sumsalone.webs.nested.word_of": "(web)",
    "sumsalone.webs.nested.is_nested_row": "(degrees)",
    "sumsalone.webs.nested.nested_rows": "(places, total)",
    "sumsalone.webs.nested.over": "(degrees)",
    "sumsalone.webs.nested.is_over": "(degrees, value)",
    "sumsalone.webs.near.fewest_away": "(degrees)",
    "sumsalone.webs.near.nearest": "(degrees)",
    "sumsalone.webs.near.is_nearest": "(degrees, value)",
    "sumsalone.webs.near.table_of_web": "(web)",
    "sumsalone.webs.near.web_from": "(table)",
    "sumsalone.wins.scores.has_tournament": "(scores)",
    "sumsalone.wins.scores.greatest_deficit": "(scores)",
    "sumsalone.wins.scores.score_paper": "(scores)",
    "sumsalone.wins.scores.is_score_paper": "(scores, value)",
    "sumsalone.wins.scores.tournament_of": "(scores)",
    "sumsalone.wins.scores.nearest_scores": "(scores)",
    "sumsalone.wins.parts.strong_parts": "(scores)",
    "sumsalone.wins.parts.is_strong": "(scores)",
    "sumsalone.wins.parts.count_rings": "(scores)",
    "sumsalone.wins.parts.parts_in": "(tournament)",
    "sumsalone.wins.parts.rings_in": "(tournament)",
    "sumsalone.wins.parts.row_through": "(tournament)",
    "sumsalone.wins.parts.ring_through": "(tournament)",
    "sumsalone.wins.parts.is_row_through": "(tournament, value)",
    "sumsalone.wins.parts.is_ring_through": "(tournament, value)",
    "sumsalone.wins.halves.table_of_tournament": "(tournament)",
    "sumsalone.wins.halves.is_half_table": "(value)",
    "sumsalone.wins.halves.halved": "(table)",
    "sumsalone.roads.carried.row_of": "(thing)",
    "sumsalone.roads.carried.count_moves": "(thing, i, j)",
    "sumsalone.roads.carried.moved": "(thing, i, j)",
    "sumsalone.roads.carried.is_move": "(thing, i, j, value)",
    "sumsalone.roads.carried.carried": "(thing, row)",
    "sumsalone.roads.carried.is_carrying": "(thing, row, value)",
    "sumsalone.roads.carried.is_highest": "(thing)",
    "sumsalone.roads.carried.raised": "(thing)",
    "sumsalone.roads.carried.is_raising": "(thing, value)",
    "sumsalone.roads.exchanges.distance": "(one, other)",
    "sumsalone.roads.exchanges.each_exchange": "(thing)",
    "sumsalone.roads.exchanges.count_exchanges": "(thing)",
    "sumsalone.roads.exchanges.is_exchange": "(thing, value)",
    "sumsalone.roads.exchanges.nearer": "(one, other)",
    "sumsalone.roads.exchanges.is_nearer": "(one, other, value)",
    "sumsalone.roads.exchanges.split": "(one, other)",
    "sumsalone.roads.exchanges.is_split": "(one, other, value)",
    "sumsalone.roads.exchanges.exchange_road": "(one, other, split)",
    "sumsalone.roads.exchanges.is_exchange_road": "(one, other, value)",
    "sumsalone.sure.forced.is_possible": "(sums)",
    "sumsalone.sure.forced.with_more": "(sums, place)",
    "sumsalone.sure.forced.with_less": "(sums, place)",
    "sumsalone.sure.forced.state_of": "(sums, place)",
    "sumsalone.sure.forced.states": "(sums)",
    "sumsalone.sure.forced.forced_paper": "(sums, place)",
    "sumsalone.sure.forced.is_forced_paper": "(sums, place, value)",
    "sumsalone.sure.forced.parts_of": "(sums)",
    "sumsalone.sure.forced.is_alone": "(sums)",
    "sumsalone.both.parted.is_level": "(value)",
    "sumsalone.both.parted.rest_of": "(sums, share)",
    "sumsalone.both.parted.has_part": "(sums, share)",
    "sumsalone.both.parted.parted_paper": "(sums, share)",
    "sumsalone.both.parted.is_parted_paper": "(sums, share, value)",
    "sumsalone.both.apart.lessened": "(sums, many)",
    "sumsalone.both.apart.most_apart": "(sums)",
    "sumsalone.both.apart.apart_paper": "(sums)",
    "sumsalone.both.apart.is_apart_paper": "(sums, value)",
    "sumsalone.both.apart.first_cover": "(sums)",
    "sumsalone.both.joined.is_joined": "(thing)",
    "sumsalone.both.joined.is_firm": "(thing)",
    "sumsalone.both.joined.can_join": "(sums)",
    "sumsalone.both.joined.joined_paper": "(sums)",
    "sumsalone.both.joined.is_joined_paper": "(sums, value)",
    "sumsalone.both.joined.can_be_firm": "(sums)",
    "sumsalone.both.joined.firm_paper": "(sums)",
    "sumsalone.both.joined.is_firm_paper": "(sums, value)",
    "sumsalone.fill.fillings.is_shape": "(value)",
    "sumsalone.fill.fillings.turned_shape": "(shape)",
    "sumsalone.fill.fillings.is_filling": "(value)",
    "sumsalone.fill.fillings.shape_of": "(filling)",
    "sumsalone.fill.fillings.entry_counts": "(filling, many)",
    "sumsalone.fill.fillings.count_fillings": "(shape, sums)",
    "sumsalone.fill.fillings.each_filling": "(shape, sums)",
    "sumsalone.fill.insertion.Press": "(lines, columns)",
    "sumsalone.fill.insertion.fillings_of": "(table)",
    "sumsalone.fill.insertion.table_of": "(lines, columns, left, right)",
    "sumsalone.count.counts.count_things": "(sums)",
    "sumsalone.count.counts.each_thing": "(sums)",
    "sumsalone.count.counts.shape_counts": "(sums)",
    "sumsalone.across.bridges.web_of_table": "(table)",
    "sumsalone.across.bridges.tournament_of_table": "(table)",
    "sumsalone.across.bridges.web_of_sides": "(table, *, tied=False)",
    "sumsalone.across.bridges.table_of_sides": "(web, lines, *, tied=False)",
    "sumsalone.across.bridges.opposite_sums": "(sums)",
    "sumsalone.across.even.even_step": "(thing, first, second, *, columns=False)",
    "sumsalone.across.even.back_step": "(thing, first, second, *, columns=False)",
    "sumsalone.across.even.steps_between": "(thing, first, second, *, columns=False)",
    "sumsalone.text.texts.write": "(thing)",
    "sumsalone.text.texts.read": "(text)",
    "sumsalone.house.bench.Bench": "(thing)",
    "sumsalone.text.shell.Shell": "()",
    "sumsalone.base.things.Table": "(cap, *lines)",
    "sumsalone.base.things.Web": "(places, *ties)",
    "sumsalone.base.things.Tournament": "(*beaten)",
}
METHOD_PARAMETERS = {
    ("sumsalone.fill.insertion", "Press"): {"of": "(table)", "put": "(self, line, column)", "back": "(self, *, many=1)"},
    ("sumsalone.house.bench", "Bench"): {"promise": "(self, name, *terms)", "forget": "(self, name)", "put": "(self, thing)",
                                         "turn": "(self, place)", "carry": "(self, one, other)", "undo": "(self, *, many=1)",
                                         "redo": "(self, *, many=1)", "trial": "(self)", "during": "(self, call)",
                                         "twin": "(self)"},
    ("sumsalone.text.shell", "Shell"): {"run": "(self, command)", "replayed": "(script)"},
    ("sumsalone.base.things", "Table"): {"of": "(cap, lines)", "cell": "(self, line, column)", "flipped": "(self)",
                                         "with_cell": "(self, line, column, number)", "opposite": "(self)"},
    ("sumsalone.base.things", "Web"): {"of": "(places, ties)", "beside": "(self, place)", "are_tied": "(self, one, other)",
                                       "with_change": "(self, one, other)", "opposite": "(self)"},
    ("sumsalone.base.things", "Tournament"): {"of": "(beaten)", "beats": "(self, one, other)", "opposite": "(self)",
                                              "with_change": "(self, one, other)"},
    ("sumsalone.rows.rows", "Order"): {"meet": "(self, *rows)", "join": "(self, *rows)", "covered": "(self, row)",
                                       "rows": "(self)"},
}


class Interface(unittest.TestCase):
    def test_names_are_defined_in_their_files(self):
        for module, names in MODULES.items():
            for name in names.split():
                self.assertEqual(getattr(importlib.import_module(module), name).__module__, module)

    def test_methods_are_defined_in_their_classes(self):
        for (module, name), methods in METHODS.items():
            body = vars(getattr(importlib.import_module(module), name))
            for method in methods.split():
                self.assertIn(method, body, name)

    def test_constants(self):
        for module, constants in CONSTANTS.items():
            for name, value in constants.items():
                self.assertEqual(getattr(importlib.import_module(module), name), value)

    def test_parameters_of_methods(self):
        for (module, name), methods in METHOD_PARAMETERS.items():
            for method, told in methods.items():
                found = getattr(getattr(importlib.import_module(module), name), method)
                self.assertEqual(str(inspect.signature(found)), told)

    def test_parameters(self):
        for path, told in PARAMETERS.items():
            module, name = path.rsplit(".", 1)
            self.assertEqual(str(inspect.signature(getattr(importlib.import_module(module), name))), told)
