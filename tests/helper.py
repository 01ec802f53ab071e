"""Books for the tests, and planks worked out from their places, without the program's own shapes."""

import functools
import random

from combstrip.book import Book

# From so many places on, going on means going on without end: a shape has come again by then.
LONG = 128


def book_of(combs):
    book = Book()
    for name, teeth in combs.items():
        book.put(name, list(teeth))
    return book


def combs_of(book):
    return {name: book.teeth(name) for name in book.names()}


def full_of_deeds(book):
    """Brings a book to 300 standing deeds: its first comb is given the tooth 1 and loses it, in turn."""
    name = book.names()[0]
    tooth = 1
    while book.deeds() < 300:
        if tooth in book.teeth(name):
            book.take_off(name, tooth)
        else:
            book.add_tooth(name, tooth)
    return book


def some_combs(seed, most_combs=8, most_teeth=8):
    chance = random.Random(seed)
    names = ["a", "ab", "b", "ba", "oak", "rake", "zz", "zzzzzz"]
    combs = {}
    for name in chance.sample(names, chance.randint(1, most_combs)):
        combs[name] = [0] + chance.sample(range(1, 8), chance.randint(0, most_teeth - 1))
    return combs


def covered_ahead(combs, place):
    """Each way in which the places from this one on can be covered, once those below are, as a set of places."""
    ways = {frozenset()}
    for here in range(place):
        further = set()
        for covered in ways:
            if here in covered:
                further.add(covered - {here})
                continue
            for teeth in combs.values():
                laid = frozenset(here + tooth for tooth in teeth)
                if not laid & covered:
                    further.add((covered | laid) - {here})
        ways = further
    return ways


def shape_of(covered, place):
    return sum(2 ** (spot - place) for spot in covered if spot >= place)


def shapes_of_plank(combs, place):
    return sorted(shape_of(covered, place) for covered in covered_ahead(combs, place))


def first_layings(combs, upto):
    """The layings below a place of the first filling of the strip, or None where there is no filling."""

    @functools.lru_cache(maxsize=None)
    def goes_on(covered, far):
        """Whether so many places can be covered, with these of them covered already."""
        if far == 0:
            return True
        if 0 in covered:
            return goes_on(moved(covered), far - 1)
        return any(goes_on(after, far - 1) for name, after in choices(covered))

    def moved(covered):
        return frozenset(spot - 1 for spot in covered if spot > 0)

    def choices(covered):
        found = []
        for name in sorted(combs):
            if not covered & set(combs[name]):
                found.append((name, moved(covered | set(combs[name]))))
        return found

    covered = frozenset()
    layings = []
    for place in range(upto):
        if 0 in covered:
            covered = moved(covered)
            continue
        lasting = [choice for choice in choices(covered) if goes_on(choice[1], LONG)]
        if not lasting:
            return None
        layings.append((place, lasting[0][0]))
        covered = lasting[0][1]
    return layings
