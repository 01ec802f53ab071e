"""The line: a plank with no ends."""

from combstrip.shapes import step_table
from combstrip.sizes import SHAPES
from combstrip.walks import rows_going_on, walk_round


def fill_line(book):
    table = step_table(book)
    rows = rows_going_on(table)
    lasting = rows[-1]
    if True in lasting:
        # A way that lasts must come round in the end, so any lasting shape would do:
        # the lowest makes the answer the same every time.
        return filled_line(walk_round(table, lasting, lasting.index(True)))
    return ("stuck", [places_from(rows, shape) for shape in range(SHAPES)])


def filled_line(walk):
    # What lies ahead of the shape that comes again is no part of the way round.
    start = walk[0]
    shapes = walk[1][start:]
    layings = [(laying[0] - start, laying[1]) for laying in walk[2] if laying[0] >= start]
    return ("filled", len(shapes), shapes, layings)


def places_from(rows, shape):
    # Whoever can go on by k places can go on by fewer too, and by none from every shape.
    return len([row for row in rows if row[shape]]) - 1
