"""The examples of the document, stage by stage, in its order; later ones use names of earlier ones."""

IMPORTS = """
>>> from sumsalone.across.bridges import opposite_sums, table_of_sides, tournament_of_table, web_of_sides, web_of_table
>>> from sumsalone.across.even import back_step, even_step, steps_between
>>> from sumsalone.base.things import Table, Tournament, Web, is_sums, is_thing
>>> from sumsalone.both.apart import first_cover, lessened, most_apart
>>> from sumsalone.both.joined import can_be_firm, can_join, firm_paper, is_firm, is_joined, joined_paper
>>> from sumsalone.both.parted import has_part, parted_paper, rest_of
>>> from sumsalone.count.counts import count_things, each_thing, shape_counts
>>> from sumsalone.fill.fillings import count_fillings, each_filling, entry_counts, is_filling, is_shape, shape_of
>>> from sumsalone.fill.fillings import turned_shape
>>> from sumsalone.fill.insertion import Press, fillings_of, table_of
>>> from sumsalone.house.bench import Bench
>>> from sumsalone.roads.carried import carried, count_moves, is_carrying, is_highest, moved, raised, row_of
>>> from sumsalone.roads.exchanges import count_exchanges, distance, each_exchange, exchange_road, is_split, nearer
>>> from sumsalone.roads.exchanges import split
>>> from sumsalone.rows.roads import after, arranged, fewest_units, is_arranged_alike, is_road, road, units
>>> from sumsalone.rows.rows import Order, bar, excess, is_under, prefix_sums, sorted_row
>>> from sumsalone.rows.turned import filled_up, is_closed, is_less, least_within, moves_needed, turned
>>> from sumsalone.sure.forced import is_alone, parts_of, state_of, states
>>> from sumsalone.tables.making import filled_table, greatest_row, has_table, is_table_paper, made_table, table_paper
>>> from sumsalone.tables.placing import fewest_taken, is_most_paper, most_units
>>> from sumsalone.text.shell import Shell
>>> from sumsalone.text.texts import read, write
>>> from sumsalone.webs.near import fewest_away, is_nearest, nearest, table_of_web, web_from
>>> from sumsalone.webs.nested import is_nested_row, is_over, nested_rows, over, web_of_word, word_of
>>> from sumsalone.webs.rows import greatest_lack, has_web, is_web_paper, lack, left_after, partners, web_of, web_paper
>>> from sumsalone.wins.halves import halved, is_half_table, table_of_tournament
>>> from sumsalone.wins.parts import count_rings, is_ring_through, is_row_through, is_strong, parts_in, rings_in
>>> from sumsalone.wins.parts import strong_parts
>>> from sumsalone.wins.scores import greatest_deficit, has_tournament, is_score_paper, nearest_scores, score_paper
>>> from sumsalone.wins.scores import tournament_of
"""

STAGE_2 = """
>>> GRID = Table(1, (1, 1, 0), (1, 0, 1))
>>> PATH = Web(4, (0, 1), (1, 2), (2, 3))
>>> RING = Tournament((1,), (2,), (0,))
>>> [GRID.line_sums, GRID.column_sums, GRID.units, GRID.flipped().lines, GRID.opposite().lines, str(GRID)]
[(2, 2), (2, 1, 1), 4, ((1, 1), (1, 0), (0, 1)), ((0, 0, 1), (0, 1, 0)), 'table of 2 lines, 3 columns, cap 1']
>>> [PATH.degrees, PATH.beside(1), PATH.opposite().ties, PATH.with_change(0, 3).degrees, PATH.with_change(1, 0).ties, len(PATH)]
[(1, 2, 2, 1), (0, 2), ((0, 2), (0, 3), (1, 3)), (2, 2, 2, 2), ((1, 2), (2, 3)), 3]
>>> [RING.scores, RING.beats(2, 0), RING.opposite().beaten, RING.with_change(0, 1).scores, GRID.sums, is_thing(("tournament", (1, 1, 1)), RING), is_sums(("web", (9, 0)))]
[(1, 1, 1), True, ((2,), (0,), (1,)), (0, 2, 1), ('table', 1, (2, 2), (2, 1, 1)), True, True]
"""

STAGE_3 = """
>>> [sorted_row((1, 3, 0)), prefix_sums((1, 3, 0)), excess((1, 3, 0), 1), is_under((2, 2, 2), (0, 5, 1)), bar((3, 3, 0), (4, 1, 1)), is_under((1, 2), (2, 1))]
[(3, 1, 0), (3, 4, 4), 2, True, 2, True]
>>> ORDER = Order(4, 6)
>>> [ORDER.greatest, ORDER.least, ORDER.meet((3, 1, 1, 1), (2, 2, 2, 0)), ORDER.join((3, 1, 1, 1), (0, 2, 2, 2)), ORDER.covered((4, 1, 1, 0)), (0, 0, 0, 6) in ORDER]
[(6, 0, 0, 0), (2, 2, 1, 1), (2, 2, 1, 1), (3, 2, 1, 0), ((3, 2, 1, 0),), True]
>>> [len(list(ORDER.rows())), list(Order(2, 3).rows()), str(ORDER)]
[9, [(3, 0), (2, 1)], 'rows of 4 entries, total 6']
"""

STAGE_4 = """
>>> [arranged((5, 1, 0), (2, 2, 3)), is_arranged_alike((1, 0, 5), (2, 2, 3)), fewest_units((5, 1, 0), (2, 2, 2)), units(road((1, 0, 5), (2, 2, 2))), road((3, 1), (2, 2))]
[(1, 0, 5), True, 3, 3, ((0, 1, 1),)]
>>> [after((5, 1, 0), ((0, 2, 2),)), is_road((2, 0), (1, 1), ((0, 1, 1),)), is_road((2, 0), (0, 2), ((0, 1, 2),)), units(((0, 2, 2), (0, 1, 1)))]
[(3, 1, 2), True, False, 3]
"""

STAGE_5 = """
>>> [turned((3, 1), 4), turned((1, 1), 2, cap=2), turned((2, 0), 2, cap=2), is_closed((1, 1), 2, cap=2), is_closed((0, 2), 2, cap=2)]
[(2, 1, 1, 0), (2, 0), (2, 0), False, True]
>>> [moves_needed((6, 0, 0), (3, 3, 0)), least_within((6, 0, 0), 3), least_within((6, 1, 0), 99), is_less((2, 1, 0), (3, 1, 1)), filled_up((2, 1, 0), (3, 1, 1))]
[3, (3, 2, 1), (3, 2, 2), True, (2, 2, 1)]
"""

STAGE_6 = """
>>> [greatest_row(1, (2, 2, 1), 3), greatest_row(2, (3, 1), 2), greatest_row(9, (10 ** 20,), 2), filled_table(2, (3, 1), 2).lines]
[(3, 2, 0), (3, 1), (9, 9), ((2, 1), (1, 0))]
>>> [has_table(1, (3, 1), (2, 2)), has_table(2, (3, 1), (2, 2)), has_table(1, (1,) * 20, (10, 10)), has_table(9, (10 ** 20,), (10 ** 20,))]
[False, True, True, False]
>>> [made_table(("table", 1, (3, 1), (2, 2))), made_table(("table", 2, (3, 1), (2, 2))).line_sums, made_table(("table", 1, (3, 2, 0), (2, 2, 1))).lines, made_table(("table", 2, (1, 1), (2,))).lines]
[None, (3, 1), ((1, 1, 1), (1, 1, 0), (0, 0, 0)), ((1,), (1,))]
>>> [table_paper(("table", 2, (1, 1), (2,))) == ("made", Table(2, (1,), (1,))), is_table_paper(("table", 1, (3, 1), (2, 2)), ("columns", (0, 1))), is_table_paper(("table", 1, (1, 1), (1,)), ("lines", (0, 1))), is_table_paper(("table", 1, (1,), (1, 1)), ("columns", (0, 1))), is_table_paper(("table", 1, (3, 1), (2, 2)), ("lines", (0, 1)))]
[True, True, True, True, False]
"""

STAGE_7 = """
>>> [most_units(("table", 1, (3, 1), (2, 2))), fewest_taken(("table", 1, (3, 1), (2, 2))), most_units(("table", 2, (3, 1), (2, 2))), fewest_taken(("table", 1, (100,), (5, 0)))]
[3, 2, 4, 103]
>>> [is_most_paper(("table", 1, (3, 1), (2, 2)), (Table(1, (1, 1), (0, 1)), (0,))), is_most_paper(("table", 1, (3, 1), (2, 2)), (Table(1, (1, 1), (0, 0)), (0,))), is_most_paper(("table", 2, (1, 1), (2,)), (Table(2, (1,), (1,)), ()))]
[True, False, True]
"""

STAGE_8 = """
>>> [has_web((2, 2, 2, 2)), has_web((3, 3, 1, 1)), lack((3, 3, 1, 1), (0, 1)), greatest_lack((3, 3, 1, 1)), greatest_lack((1, 1, 1)), web_paper((1, 1, 1))]
[True, False, 2, 2, 0, ('odd', 3)]
>>> [is_web_paper((3, 3, 1, 1), ("bar", (0, 1))), is_web_paper((3, 3, 1, 1), ("bar", (0,))), is_web_paper((1, 1), ("made", Web(2, (0, 1)))), partners((1, 2, 2, 1), 1), left_after((1, 2, 2, 1), 1), web_of((1, 2, 2, 1)).ties]
[True, False, True, (0, 2), (0, 0, 1, 1), ((0, 1), (1, 2), (2, 3))]
"""

STAGE_9 = """
>>> [web_of_word((0, 0, 1, 1)).degrees, word_of(Web(3, (0, 1), (1, 2))), word_of(Web(4, (0, 1), (2, 3))), is_nested_row((1, 3, 2, 2)), is_nested_row((2, 2, 2, 2))]
[(2, 2, 3, 3), (0, 0, 1), None, True, False]
>>> [nested_rows(4, 8), nested_rows(4, 6), nested_rows(3, 3), over((2, 2, 2, 2)), over((3, 3, 1, 1)), is_over((2, 2, 1, 1), (3, 1, 1, 1)), is_over((2, 2, 1, 1), (2, 2, 2, 0))]
[((3, 2, 2, 1),), ((2, 2, 2, 0), (3, 1, 1, 1)), (), (3, 2, 2, 1), None, True, True]
"""

STAGE_10 = """
>>> [fewest_away((3, 3, 1, 1)), fewest_away((5, 2, 2, 2)), fewest_away((1, 1, 1)), is_nearest((5, 2, 2, 2), (3, 2, 2, 1)), is_nearest((5, 2, 2, 2), (2, 2, 2, 2)), nearest((0, 0))]
[2, 3, 1, True, True, (0, 0)]
>>> ring = Table(1, (0, 1, 0, 0), (0, 0, 1, 0), (0, 0, 0, 1), (1, 0, 0, 0))
>>> [table_of_web(Web(2, (0, 1))) == Table(1, (0, 1), (1, 0)), web_from(ring).degrees]
[True, (1, 1, 1, 1)]
"""

STAGE_11 = """
>>> [has_tournament((1, 1, 1)), has_tournament((0, 0, 3)), greatest_deficit((0, 0, 3)), greatest_deficit((3, 3, 0, 0)), score_paper((0, 0, 3)), is_score_paper((3, 3, 0, 0), ("bar", (2, 3)))]
[True, False, 1, 1, ('bar', (0, 1)), True]
>>> [tournament_of((2, 1, 0)).beaten, sum(nearest_scores((0, 0, 3))), has_tournament(nearest_scores((0, 0, 3))), is_score_paper((1, 1, 1), ("made", Tournament((1,), (2,), (0,))))]
[((1, 2), (2,), ()), 3, True, True]
"""

STAGE_12 = """
>>> [strong_parts((0, 1, 2)), strong_parts((1, 1, 1, 3)), is_strong((1, 1, 1)), count_rings((1, 1, 1, 3)), count_rings((2, 2, 2, 2, 2))]
[((2,), (1,), (0,)), ((3,), (0, 1, 2)), True, 1, 5]
>>> [parts_in(RING), rings_in(RING), is_ring_through(RING, (1, 2, 0)), is_row_through(RING, (0, 2, 1)), is_row_through(Tournament((1, 2), (2,), ()), (0, 1, 2))]
[((0, 1, 2),), ((0, 1, 2),), True, False, True]
"""

STAGE_13 = """
>>> [table_of_tournament(RING).lines, is_half_table(Table(1, (0, 1), (1, 0))), is_half_table(Table(1, (0, 1, 1), (1, 0, 0), (0, 0, 0)))]
[((0, 1, 0), (0, 0, 1), (1, 0, 0)), False, False]
>>> TWICE = Table(1, (0, 1, 0, 1), (1, 0, 1, 0), (0, 0, 0, 1), (0, 0, 1, 0))
>>> [is_half_table(TWICE), halved(TWICE).scores, halved(TWICE).beats(0, 3), halved(TWICE).beats(1, 2), halved(table_of_tournament(RING)) == RING]
[True, (2, 2, 1, 1), True, True, True]
"""

STAGE_14 = """
>>> STAIR = Tournament((1, 2), (2,), ())
>>> [row_of(GRID), row_of(PATH), count_moves(PATH, 1, 0), count_moves(PATH, 0, 1), moved(PATH, 1, 0).ties, count_moves(STAIR, 0, 2), count_moves(STAIR, 2, 0), count_moves(Table(2, (2, 1), (0, 1)), 0, 1)]
[(2, 2), (1, 2, 2, 1), 1, 0, ((0, 1), (0, 2), (2, 3)), 2, 0, 2]
>>> [len(carried(STAIR, (1, 1, 1))), is_carrying(STAIR, (1, 1, 1), (STAIR, RING)), is_carrying(STAIR, (2, 1, 0), (STAIR,)), [is_highest(one) for one in (STAIR, RING, PATH, Web(3, (0, 1), (0, 2)), Table(2, (2, 1), (0, 1)), GRID)], len(raised(RING))]
[2, True, True, [True, False, False, True, False, False], 2]
"""

STAGE_15 = """
>>> OTHER = Web(4, (0, 2), (1, 2), (1, 3))
>>> [distance(PATH, OTHER), count_exchanges(PATH), list(each_exchange(PATH)) == [OTHER], is_split(PATH, OTHER, ((0, 1, 3, 2),)), exchange_road(PATH, OTHER, split(PATH, OTHER)) == (PATH, OTHER)]
[4, 1, True, True, True]
>>> TURNED = Table(1, (1, 0, 1), (1, 1, 0))
>>> [distance(GRID, TURNED), [one.lines for one in each_exchange(GRID)], is_split(GRID, TURNED, ((0, 1, 1, 2),)), nearer(GRID, TURNED)[0] in ("first", "second"), split(GRID, GRID), exchange_road(GRID, GRID, ()) == (GRID,)]
[4, [((1, 0, 1), (1, 1, 0))], True, True, (), True]
>>> [distance(RING, RING.opposite()), count_exchanges(RING), is_split(RING, RING.opposite(), ((1, 2, 0),)), count_exchanges(STAIR), count_exchanges(Table(2, (1, 1), (1, 1)))]
[3, 1, True, 0, 2]
"""

STAGE_16 = """
>>> [state_of(("web", (2, 2, 1, 1)), (0, 1)), states(("tournament", (0, 1, 2))), is_alone(("table", 1, (2, 1), (2, 1))), parts_of(("tournament", (2, 0, 2, 2)))]
['full', {(0, 1): 'empty', (0, 2): 'empty', (1, 2): 'empty'}, True, ((0, 2, 3), (1,))]
"""

STAGE_17 = """
>>> HOOK, ONES = ("table", 1, (2, 1), (2, 1)), ("table", 1, (1, 1), (1, 1))
>>> [parted_paper(HOOK, ONES) == ("made", Table(1, (1, 1), (1, 0)), Table(1, (0, 1), (1, 0))), rest_of(HOOK, ONES), has_part(("web", (2, 2, 2, 2)), ("web", (1, 1, 1, 1))), has_part(("web", (3, 1, 1, 1)), ("web", (1, 1, 1, 1)))]
[True, ('table', 1, (1, 0), (1, 0)), True, False]
"""

STAGE_18 = """
>>> CROSS = ("table", 1, (3, 1, 1), (3, 1, 1))
>>> [most_apart(CROSS), first_cover(CROSS), lessened(CROSS, 2), most_apart(("web", (2, 2, 2, 2, 2, 2))), most_apart(("web", (3, 1, 1, 1))), most_apart(("table", 2, (4,), (2, 2)))]
[2, (1, 1), ('table', 1, (2, 0, 1), (2, 0, 1)), 3, 1, 1]
"""

STAGE_19 = """
>>> PAIRS, RINGS = ("web", (1, 1, 1, 1)), ("web", (2, 2, 2, 2, 2, 2))
>>> [can_join(PAIRS), joined_paper(PAIRS), can_join(RINGS), can_be_firm(RINGS), can_join(("table", 1, (1, 1), (1, 1))), can_be_firm(("table", 2, (2, 2), (2, 2)))]
[False, ('few', 4), True, True, False, True]
>>> [is_joined(Web(6, (0, 1), (0, 2), (1, 2), (3, 4), (3, 5), (4, 5))), is_firm(Table(2, (2,))), is_firm(Table(1, (1, 1), (1, 1))), firm_paper(("web", (2, 2, 1, 1)))[0]]
[False, True, True, 'low']
"""

STAGE_20 = """
>>> [turned_shape((3, 1)), is_shape((1, 2)), is_shape(()), is_filling(((0, 0), (1,))), is_filling(((0, 1), (0,))), shape_of(((0, 1), (2,))), entry_counts(((0, 0), (1,)), 3)]
[(2, 1, 1), False, True, True, False, (2, 1), (2, 1, 0)]
>>> [list(each_filling((2, 1), (1, 1, 1))), count_fillings((3, 2, 1), (2, 2, 1, 1)), count_fillings((2, 1), (0, 3)), count_fillings((), ())]
[[((0, 1), (2,)), ((0, 2), (1,))], 4, 0, 1]
"""

STAGE_21 = """
>>> press = Press(2, 3)
>>> [press.put(0, 1), press.put(0, 2), press.left, press.right, press.put(1, 0), press.left, press.right, str(press)]
[(0, 0), (0, 1), ((1,), (2,)), ((0, 0),), (1, 0), ((0, 1), (2,)), ((0, 0), (1,)), 'press of 2 lines, 3 columns, 3 pairs']
>>> [fillings_of(Table(1, (0, 1, 0), (1, 0, 1))), table_of(2, 2, ((0, 1), (1,)), ((0, 1), (1,))) == Table(1, (0, 1), (1, 1)), press.back(many=2), press.pairs]
[(((0, 1), (2,)), ((0, 1), (1,))), True, ((0, 2), (1, 0)), ((0, 1),)]
"""

STAGE_22 = """
>>> [count_things(("table", 1, (1, 1), (1, 1))), count_things(("table", 2, (2, 2), (2, 2))), count_things(("web", (2, 2, 2, 2))), count_things(("tournament", (2, 2, 1, 1))), count_things(("web", (1, 1, 1)))]
[2, 3, 3, 4, 0]
>>> [shape_counts(("table", 1, (2, 1), (1, 1, 1))), shape_counts(("web", (2, 2, 2, 2))), shape_counts(("tournament", (1, 1, 1))), [table.lines for table in each_thing(("table", 2, (1, 2), (2, 1)))]]
[{(2, 1): 2, (3,): 1}, {(3, 2, 2, 1): 3}, {(2, 1): 2}, [((0, 1), (2, 0)), ((1, 0), (1, 1))]]
"""

STAGE_23 = """
>>> [web_of_table(Table(1, (0, 1, 0), (1, 0, 0), (0, 0, 0))) == Web(3, (0, 1)), tournament_of_table(Table(1, (0, 1), (0, 0))) == Tournament((1,), ()), web_of_sides(Table(1, (1, 0), (1, 1))) == Web(4, (0, 2), (1, 2), (1, 3)), web_of_sides(Table(1, (1, 0), (1, 1)), tied=True).degrees]
[True, True, True, (2, 3, 2, 1)]
>>> [table_of_sides(Web(4, (0, 1), (0, 2), (1, 2), (1, 3)), 2, tied=True).lines, opposite_sums(("table", 2, (3, 1), (2, 2))), opposite_sums(("web", (1, 1, 0)))]
[((1, 0), (1, 1)), ('table', 2, (1, 3), (2, 2)), ('web', (1, 1, 2))]
"""

STAGE_24 = """
>>> STEP = even_step(Table(1, (0, 1, 1), (1, 0, 0)), 0, 1)
>>> [STEP == Table(1, (0, 1, 0), (1, 0, 1)), back_step(STEP, 0, 1) == Table(1, (0, 1, 1), (1, 0, 0)), fillings_of(STEP)[0], steps_between(STEP, 0, 1), even_step(Web(3, (0, 1), (0, 2)), 0, 1) == Web(3, (0, 1), (1, 2)), even_step(Tournament((1, 2), (2,), ()), 0, 2) == Tournament((2,), (0,), (1,))]
[True, True, ((0, 1), (2,)), (0, 1), True, True]
>>> [even_step(Table(2, (2, 1), (0, 0)), 0, 1) == Table(2, (2, 0), (0, 1)), even_step(Table(1, (1, 0), (1, 0)), 0, 1, columns=True) == Table(1, (0, 1), (1, 0))]
[True, True]
"""

STAGE_25 = """
>>> [write(("tournament", (2, 1, 0))), write(("table", 1, (2, 1), (2, 1))).split("\\n"), write(RING).split("\\n"), read("tournament\\n1 2\\n2\\n-").scores]
['sums tournament 2 1 0', ['sums table 1', '2 1', '2 1'], ['tournament', '1', '2', '0'], (2, 1, 0)]
>>> [read("web 3\\n0 1").ties, read("table 2\\n0 2\\n1 1").lines, read("sums web 1 1")]
[((0, 1),), ((0, 2), (1, 1)), ('web', (1, 1))]
"""

STAGE_26 = """
>>> bench = Bench(RING)
>>> bench.promise("even", "under", (2, 1, 0))
>>> [bench.promises, bench.turn((0, 1)), bench.thing.scores, bench.deeds, bench.undo(), bench.row, str(bench)]
[{'even': ('under', (2, 1, 0))}, None, (0, 2, 1), ('promise', 'turn'), 1, (1, 1, 1), 'bench with tournament of 3 players, 1 promises']
"""

STAGE_27 = """
>>> shell = Shell()
>>> [shell("new a\\nweb 4\\n0 1\\n1 2\\n2 3"), shell("sums a"), shell("turn a 0 3").split("\\n")[2], shell("alone a"), shell("state a 0 1"), shell("copy a b"), shell("under a b"), shell.names]
['web of 4 places, 3 ties', 'sums web 1 2 2 1', '0 3', False, 'free', None, True, ('a', 'b')]
"""

STAGES = [IMPORTS, STAGE_2, STAGE_3, STAGE_4, STAGE_5, STAGE_6, STAGE_7, STAGE_8, STAGE_9, STAGE_10, STAGE_11,
          STAGE_12, STAGE_13, STAGE_14, STAGE_15, STAGE_16, STAGE_17, STAGE_18, STAGE_19, STAGE_20, STAGE_21,
          STAGE_22, STAGE_23, STAGE_24, STAGE_25, STAGE_26, STAGE_27]
