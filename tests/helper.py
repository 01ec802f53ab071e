"""Books for the tests, and planks worked out from their places, without the program's own shapes."""

import functools
import itertools
import random

from combstrip.book import Book

# From so many places on, going on means going on without end: a shape has come again by then.
LONG = 128


def book_of(combs):
    book = Book()
    for name, teeth in combs.items():
        book.put(name, list(teeth))
    return book


def combs_of(book):
    return {name: book.teeth(name) for name in book.names()}


def full_of_deeds(book):
    """Brings a book to 300 standing deeds: its first comb is given the tooth 1 and loses it, in turn."""
    name = book.names()[0]
    tooth = 1
    while book.deeds() < 300:
        if tooth in book.teeth(name):
            book.take_off(name, tooth)
        else:
            book.add_tooth(name, tooth)
    return book


def by_other_deeds(combs):
    """A book with these combs, brought there by putting in others and by adding and taking off teeth."""
    book = Book()
    for name in sorted(combs, reverse=True):
        book.put("x", [0, 6])
        book.put(name, [0, 2])
        for tooth in range(1, 8):
            if (tooth in combs[name]) != (tooth in book.teeth(name)):
                book.add_tooth(name, tooth) if tooth in combs[name] else book.take_off(name, tooth)
        book.drop("x")
    return book


def some_combs(seed, most_combs=8, most_teeth=8):
    chance = random.Random(seed)
    names = ["a", "ab", "b", "ba", "oak", "rake", "zz", "zzzzzz"]
    combs = {}
    for name in chance.sample(names, chance.randint(1, most_combs)):
        combs[name] = [0] + chance.sample(range(1, 8), chance.randint(0, most_teeth - 1))
    return combs


def moved(covered):
    return frozenset(spot - 1 for spot in covered if spot > 0)


def ways_on(combs):
    """What tells how one goes on by a place, the places that are covered being counted from there: pairs of a name,
    or None where the place is covered, and of what is covered then, counted from the next place."""

    @functools.lru_cache(maxsize=None)
    def ways(covered):
        if 0 in covered:
            return [(None, moved(covered))]
        fitting = [name for name in sorted(combs) if not covered & set(combs[name])]
        return [(name, moved(covered | set(combs[name]))) for name in fitting]

    return ways


def rows_covered(combs, upto):
    """For each place from 0 to upto: all that can be covered from it on, once the places below are."""
    ways = ways_on(combs)
    rows = [{frozenset()}]
    for place in range(upto):
        rows.append(set(after for covered in rows[-1] for name, after in ways(covered)))
    return rows


def shape_of(covered, place):
    return sum(2 ** (spot - place) for spot in covered if spot >= place)


def shapes_of_plank(combs, place):
    return sorted(shape_of(covered, 0) for covered in rows_covered(combs, place)[place])


def first_layings(combs, upto):
    """The layings below a place of the first filling of the strip, or None where there is no filling."""
    ways = ways_on(combs)

    @functools.lru_cache(maxsize=None)
    def goes_on(covered, far):
        """Whether one can go on by so many places."""
        return far == 0 or any(goes_on(after, far - 1) for name, after in ways(covered))

    covered = frozenset()
    layings = []
    for place in range(upto):
        lasting = [way for way in ways(covered) if goes_on(way[1], LONG)]
        if not lasting:
            return None
        name, covered = lasting[0]
        if name is not None:
            layings.append((place, name))
    return layings


def greatest_ways(combs):
    """By how many places one can go on from each shape, in the order of shapes, or None where one can without end."""
    ways = ways_on(combs)
    every = [frozenset(spots) for size in range(8) for spots in itertools.combinations(range(7), size)]
    counts = dict.fromkeys(every, 0)
    going = set(every)
    for far in range(1, LONG + 1):
        going = set(covered for covered in every if any(after in going for name, after in ways(covered)))
        counts.update(dict.fromkeys(going, far))
    if going:
        return None
    return [counts[covered] for covered in sorted(every, key=lambda covered: shape_of(covered, 0))]


def fillings_of(combs, length):
    """All fillings of a plank, one by one, in their order: the lowest free place is covered by each comb in turn."""

    def lay(under, layings):
        free = [place for place in range(length) if place not in under]
        if not free:
            yield layings
            return
        for name in sorted(combs):
            teeth = set(free[0] + tooth for tooth in combs[name])
            if max(teeth) < length and not teeth & under:
                yield from lay(under | teeth, layings + [(free[0], name)])

    return list(lay(frozenset(), []))
