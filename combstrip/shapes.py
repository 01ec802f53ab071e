"""Shapes: which of the places ahead are under a tooth, and how one goes on from there."""

from combstrip.errors import BadPlace, BadShape
from combstrip.sizes import MOST_SHAPED, SHAPES

# What each tooth from 0 to 7 adds to a shape.
TOOTH_WORTH = (1, 2, 4, 8, 16, 32, 64, 128)


def shape_steps(book, shape):
    if not 0 <= shape < SHAPES:
        raise BadShape("a shape is a whole number from 0 to 127")
    if shape % 2 == 1:
        return [("", shape // 2)]
    steps = []
    for name in book.names():
        worth = teeth_worth(book.teeth(name))
        if (shape & worth) == 0:
            steps.append((name, (shape + worth) // 2))
    return steps


def teeth_worth(teeth):
    return sum([TOOTH_WORTH[tooth] for tooth in teeth])


def shapes_at(book, place):
    if not 0 <= place <= MOST_SHAPED:
        raise BadPlace("a place is a whole number from 0 to 200 here")
    table = step_table(book)
    shapes = [0]
    for passed in range(place):
        shapes = shapes_behind(table, shapes)
    return shapes


def step_table(book):
    # Asked once for every shape: a walk along a plank meets the same shapes again and again.
    return [shape_steps(book, shape) for shape in range(SHAPES)]


def shapes_behind(table, shapes):
    """The shapes to which one step leads from any of these shapes, rising."""
    reached = {}
    for shape in shapes:
        for step in table[shape]:
            reached[step[1]] = True
    return sorted(reached)
