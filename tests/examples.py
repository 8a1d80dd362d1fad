"""The examples of the document, stage by stage, in its order; later ones use names of earlier ones."""

IMPORTS = """
>>> from sumsalone.base.things import Table, Tournament, Web, is_sums, is_thing
>>> from sumsalone.rows.rows import Order, bar, excess, is_under, prefix_sums, sorted_row
"""

STAGE_2 = """
>>> GRID = Table(1, (1, 1, 0), (1, 0, 1))
>>> PATH = Web(4, (0, 1), (1, 2), (2, 3))
>>> RING = Tournament((1,), (2,), (0,))
>>> [GRID.line_sums, GRID.column_sums, GRID.units, GRID.flipped().lines, GRID.opposite().lines, str(GRID)]
[(2, 2), (2, 1, 1), 4, ((1, 1), (1, 0), (0, 1)), ((0, 0, 1), (0, 1, 0)), 'table of 2 lines, 3 columns, cap 1']
>>> [PATH.degrees, PATH.beside(1), PATH.opposite().ties, PATH.with_change(0, 3).degrees, PATH.with_change(1, 0).ties, len(PATH)]
[(1, 2, 2, 1), (0, 2), ((0, 2), (0, 3), (1, 3)), (2, 2, 2, 2), ((1, 2), (2, 3)), 3]
>>> [RING.scores, RING.beats(2, 0), RING.opposite().beaten, RING.with_change(0, 1).scores, GRID.sums, is_thing(("tournament", (1, 1, 1)), RING), is_sums(("web", (9, 0)))]
[(1, 1, 1), True, ((2,), (0,), (1,)), (0, 2, 1), ('table', 1, (2, 2), (2, 1, 1)), True, True]
"""

STAGE_3 = """
>>> [sorted_row((1, 3, 0)), prefix_sums((1, 3, 0)), excess((1, 3, 0), 1), is_under((2, 2, 2), (0, 5, 1)), bar((3, 3, 0), (4, 1, 1)), is_under((1, 2), (2, 1))]
[(3, 1, 0), (3, 4, 4), 2, True, 2, True]
>>> ORDER = Order(4, 6)
>>> [ORDER.greatest, ORDER.least, ORDER.meet((3, 1, 1, 1), (2, 2, 2, 0)), ORDER.join((3, 1, 1, 1), (0, 2, 2, 2)), ORDER.covered((4, 1, 1, 0)), (0, 0, 0, 6) in ORDER]
[(6, 0, 0, 0), (2, 2, 1, 1), (2, 2, 1, 1), (3, 2, 1, 0), ((3, 2, 1, 0),), True]
>>> [len(list(ORDER.rows())), list(Order(2, 3).rows()), str(ORDER)]
[9, [(3, 0), (2, 1)], 'rows of 4 entries, total 6']
"""

STAGES = [IMPORTS, STAGE_2, STAGE_3]
