"""The fillings of a plank with two ends: the first one, and how many there are."""

from combstrip.errors import BadLength, NoFilling
from combstrip.shapes import step_table
from combstrip.sizes import MOST_FILLED


def first_filling(book, length):
    check_length(length)
    table = step_table(book)
    ways = ways_to_close(table, length)
    # No comb is asked for, so every way is wanted from the left end on.
    return lay_first(table, ways, ways, "")


def count_fillings(book, length):
    check_length(length)
    return ways_to_close(step_table(book), length)[length][0]


def first_filling_with(book, name, length):
    book.check_comb(name)
    check_length(length)
    table = step_table(book)
    ways = ways_to_close(table, length)
    return lay_first(table, ways, ways_to_lay(table, ways, name), name)


def count_fillings_with(book, name, length):
    book.check_comb(name)
    check_length(length)
    table = step_table(book)
    return ways_to_lay(table, ways_to_close(table, length), name)[length][0]


def check_length(length):
    if not 0 <= length <= MOST_FILLED:
        raise BadLength("a length is a whole number from 0 to 200 here")


def ways_to_close(table, length):
    """For each number of places from 0 to length, and for each shape: in how many ways they lead to the shape 0."""
    rows = [[0 for steps in table]]
    rows[0][0] = 1
    for passed in range(length):
        rows.append([ways_from(steps, rows[-1], rows[-1], "") for steps in table])
    return rows


def ways_to_lay(table, ways, name):
    """The same, but only those ways count on which the comb of that name is laid."""
    rows = [[0 for steps in table]]
    for row in ways[:-1]:
        rows.append([ways_from(steps, row, rows[-1], name) for steps in table])
    return rows


def ways_from(steps, ways, wanted, name):
    return sum([ways_behind(step, ways, wanted, name) for step in steps])


def ways_behind(step, ways, wanted, name):
    # Once the comb is laid it need not be laid again, so every way counts behind it.
    row = ways if step[0] == name else wanted
    return row[step[1]]


def lay_first(table, ways, wanted, name):
    left = len(ways) - 1
    if wanted[left][0] == 0:
        raise NoFilling("there is no such filling of that length")
    layings = []
    shape = 0
    for place in range(left):
        left = left - 1
        step = first_open_step(table[shape], ways[left], wanted[left], name)
        if step[0] != "":
            layings.append((place, step[0]))
        if step[0] == name:
            wanted = ways
        shape = step[1]
    return layings


def first_open_step(steps, ways, wanted, name):
    # Steps stand in the order of names, so the first that can be closed is the
    # one of the first filling.
    return [step for step in steps if ways_behind(step, ways, wanted, name) > 0][0]
