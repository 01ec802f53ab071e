"""Ways along a plank that never get stuck: what the strip and the line have in common."""


def rows_going_on(table):
    """Row k tells for each shape whether one can go on from it by k places; the last row, whether without end."""
    rows = [[True for steps in table]]
    narrowed = narrow_row(table, rows[-1])
    # Once a row comes again, all further ones are like it.
    while narrowed != rows[-1]:
        rows.append(narrowed)
        narrowed = narrow_row(table, rows[-1])
    return rows


def narrow_row(table, row):
    return [leads_on(steps, row) for steps in table]


def leads_on(steps, row):
    return any([row[step[1]] for step in steps])


def walk_round(table, lasting, shape):
    """The first way that lasts from a shape, up to the first shape that has come before.

    Tells the place of the shape that comes again, the shapes at the places from 0
    on, each once, and the layings at these places.
    """
    seen = {}
    layings = []
    while shape not in seen:
        place = len(seen)
        seen[shape] = place
        step = first_lasting_step(table[shape], lasting)
        if step[0] != "":
            layings.append((place, step[0]))
        shape = step[1]
    return (seen[shape], list(seen), layings)


def first_lasting_step(steps, lasting):
    # Steps stand in the order of names, so the first that never gets stuck is
    # the one of the first filling.
    return [step for step in steps if lasting[step[1]]][0]
