"""The strip: a plank with a left end and no right one."""

from combstrip.shapes import shapes_behind, step_table
from combstrip.walks import rows_going_on, walk_round


def fill_strip(book):
    table = step_table(book)
    lasting = rows_going_on(table)[-1]
    if lasting[0]:
        return filled_strip(walk_round(table, lasting, 0))
    rows = rows_to_the_end(table)
    # The last row is the empty one, behind the place that can't be covered.
    return ("stuck", len(rows) - 2, rows)


def filled_strip(walk):
    start = walk[0]
    return ("filled", start, len(walk[1]) - start, walk[2])


def rows_to_the_end(table):
    rows = [[0]]
    while len(rows[-1]) > 0:
        rows.append(shapes_behind(table, rows[-1]))
    return rows
