"""The strip: a plank with a left end and no right one."""

from combstrip.shapes import shapes_behind, step_table


def fill_strip(book):
    table = step_table(book)
    lasting = lasting_shapes(table)
    if lasting[0]:
        return walk_strip(table, lasting)
    rows = rows_to_the_end(table)
    # The last row is the empty one, behind the place that can't be covered.
    return ("stuck", len(rows) - 2, rows)


def lasting_shapes(table):
    """For each shape, whether one can go on from it without end."""
    lasting = [True for steps in table]
    narrowed = narrow_lasting(table, lasting)
    while narrowed != lasting:
        lasting = narrowed
        narrowed = narrow_lasting(table, lasting)
    return lasting


def narrow_lasting(table, lasting):
    return [leads_on(steps, lasting) for steps in table]


def leads_on(steps, lasting):
    return any([lasting[step[1]] for step in steps])


def walk_strip(table, lasting):
    """The first filling of the strip, up to the first shape that has come before."""
    seen = {}
    layings = []
    shape = 0
    place = 0
    while shape not in seen:
        seen[shape] = place
        step = first_lasting_step(table[shape], lasting)
        if step[0] != "":
            layings.append((place, step[0]))
        shape = step[1]
        place = place + 1
    start = seen[shape]
    return ("filled", start, place - start, layings)


def first_lasting_step(steps, lasting):
    # Steps stand in the order of names, so the first that never gets stuck is
    # the one of the first filling.
    return [step for step in steps if lasting[step[1]]][0]


def rows_to_the_end(table):
    rows = [[0]]
    while len(rows[-1]) > 0:
        rows.append(shapes_behind(table, rows[-1]))
    return rows
