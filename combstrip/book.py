"""The book of combs, and the deeds that change it."""

from combstrip.combs import are_teeth, is_name
from combstrip.errors import BadName, BadTeeth, BadTooth, BookFull, DeedsFull, FirstTooth, NameTaken, NoComb
from combstrip.errors import NothingDone, ToothMissing, ToothThere
from combstrip.sizes import MOST_COMBS, MOST_DEEDS, MOST_TOOTH


class Book:
    def __init__(self):
        # From each name to the rising teeth. No deed changes a dict or a list of
        # teeth that is held here: it makes new ones, so that those of the past stay.
        self.combs = {}
        # What the combs were ahead of each deed that stands.
        self.past = []

    def put(self, name, teeth):
        if not is_name(name):
            raise BadName("a name has 1 to 6 signs, each from a to z")
        if not are_teeth(teeth):
            raise BadTeeth("teeth are places from 0 to 7, none twice, 0 among them")
        if name in self.combs:
            raise NameTaken("the book has a comb of that name")
        if len(self.combs) >= MOST_COMBS:
            raise BookFull("the book has as many combs as it can hold")
        return self.set_comb(name, teeth)

    def drop(self, name):
        self.check_comb(name)
        combs = dict(self.combs)
        combs.pop(name)
        return self.do_deed(combs)

    def add_tooth(self, name, tooth):
        self.check_comb(name)
        check_tooth(tooth)
        if tooth in self.combs[name]:
            raise ToothThere("the comb has that tooth")
        return self.set_comb(name, self.combs[name] + [tooth])

    def take_off(self, name, tooth):
        self.check_comb(name)
        check_tooth(tooth)
        if tooth == 0:
            raise FirstTooth("the tooth 0 is never taken off")
        if tooth not in self.combs[name]:
            raise ToothMissing("the comb does not have that tooth")
        return self.set_comb(name, [other for other in self.combs[name] if other != tooth])

    def undo(self):
        if len(self.past) == 0:
            raise NothingDone("no deed stands")
        self.combs = self.past.pop()
        return len(self.past)

    def deeds(self):
        return len(self.past)

    def names(self):
        return sorted(self.combs)

    def teeth(self, name):
        self.check_comb(name)
        return list(self.combs[name])

    def check_comb(self, name):
        if name not in self.combs:
            raise NoComb("the book has no comb of that name")

    def set_comb(self, name, teeth):
        combs = dict(self.combs)
        combs[name] = sorted(teeth)
        return self.do_deed(combs)

    def do_deed(self, combs):
        # Every deed comes here last, as any other refusal goes ahead of this one.
        if len(self.past) >= MOST_DEEDS:
            raise DeedsFull("as many deeds stand as can")
        self.past.append(self.combs)
        self.combs = combs
        return len(self.past)


def check_tooth(tooth):
    if not 0 <= tooth <= MOST_TOOTH:
        raise BadTooth("a tooth is a place from 0 to 7")
