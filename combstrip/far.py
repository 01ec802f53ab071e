"""Which comb lies over a place of the strip or of the line, however far out."""

from combstrip.errors import BadPlace, NoFilling
from combstrip.line import fill_line
from combstrip.sizes import MOST_PLACE, MOST_TOOTH
from combstrip.strip import fill_strip


def comb_over_strip(book, place):
    if not 0 <= place <= MOST_PLACE:
        raise BadPlace("a place of the strip is a whole number from 0 to 10 ** 18 here")
    answer = fill_strip(book)
    check_filled(answer)
    homes = [strip_home(spot, answer[1], answer[2]) for spot in reaching_places(place)]
    return laying_over(book, place, answer[3], homes)


def comb_over_line(book, place):
    if not -MOST_PLACE <= place <= MOST_PLACE:
        raise BadPlace("a place of the line is a whole number from -10 ** 18 to 10 ** 18 here")
    answer = fill_line(book)
    check_filled(answer)
    homes = [spot % answer[1] for spot in reaching_places(place)]
    return laying_over(book, place, answer[3], homes)


def check_filled(answer):
    if answer[0] == "stuck":
        raise NoFilling("the plank can't be filled")


def reaching_places(place):
    """The places at which a comb must lie to have its tooth 0, 1 and so on over the place."""
    return [place - tooth for tooth in range(MOST_TOOTH + 1)]


def strip_home(spot, start, span):
    """The place among those told of the strip that has the same laying."""
    if spot < start:
        return spot
    return start + (spot - start) % span


def laying_over(book, place, layings, homes):
    names = dict(layings)
    laid = [(tooth, names[home]) for tooth, home in enumerate(homes) if home in names]
    # One tooth is over the place and no other, so the first that is found is the only one.
    return [(place - tooth, name) for tooth, name in laid if tooth in book.teeth(name)][0]
