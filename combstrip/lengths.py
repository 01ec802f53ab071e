"""The lengths of planks that can be filled flush."""

from combstrip.errors import BadLength
from combstrip.shapes import shapes_behind, step_table
from combstrip.sizes import MOST_LENGTH, SHAPES


def flush_lengths(book):
    table = step_table(book)
    turn = shortest_length(table)
    if turn == 0:
        return (0, [0], 0)
    least = least_lengths(table, turn)
    step = turn
    for rest in least:
        step = common_divisor(step, rest)
    # One turn below the least length of its rest, a length can't be filled.
    upto = max(0, max([least[rest] for rest in least]) - turn)
    short = [length for length in range(upto + 1) if is_reached(least, turn, length)]
    return (upto, short, step)


def fits_flush(book, length):
    if not 0 <= length <= MOST_LENGTH:
        raise BadLength("a length is a whole number from 0 to 10 ** 12 here")
    table = step_table(book)
    turn = shortest_length(table)
    if turn == 0:
        return length == 0
    return is_reached(least_lengths(table, turn), turn, length)


def shortest_length(table):
    """The least length above 0 that can be filled, or 0 where there is none."""
    shapes = [0]
    # The shortest way from the shape 0 back to it meets no shape twice.
    for length in range(1, SHAPES + 1):
        shapes = shapes_behind(table, shapes)
        if 0 in shapes:
            return length
    return 0


def least_lengths(table, turn):
    """For each rest that a length leaves when it is divided by turn: the least such length that can be filled.

    As a plank of length turn can be set behind any other, each further length
    with that rest can be filled too. A rest that no length leaves is not there.
    """
    least = {}
    seen = {}
    shapes = [0]
    length = 0
    while len(shapes) > 0:
        rest = length % turn
        if 0 in shapes:
            least[rest] = length
        for shape in shapes:
            seen[(shape, rest)] = True
        length = length + 1
        # A shape that has come with the same rest leads to nothing that it did not lead to then.
        behind = shapes_behind(table, shapes)
        shapes = [further for further in behind if (further, length % turn) not in seen]
    return least


def is_reached(least, turn, length):
    rest = length % turn
    return rest in least and least[rest] <= length


def common_divisor(one, other):
    while other > 0:
        rest = one % other
        one = other
        other = rest
    return one
