"""Doors: streams that wait till the house lets them in."""

from hourlanes.errors import Taken, TooMuch, Unknown
from hourlanes.names import legs_of


class Door:
    """The door of a house, with the jars and ways of those that wait, by name and in order."""

    def __init__(self, house):
        self.house = house
        self.wishes = {}

    def wish(self, name, jar, way):
        if name in self.wishes:
            raise Taken(name)
        try:
            self.house.let_in(name, jar, way)
        except TooMuch:
            self.wishes[name] = (jar, legs_of(way))
            return False
        return True

    def look(self):
        told = []
        for name in list(self.wishes):
            jar, way = self.wishes[name]
            try:
                self.house.let_in(name, jar, way)
            except (Taken, TooMuch):
                continue
            del self.wishes[name]
            told.append(name)
        return told

    def waiting(self):
        return list(self.wishes)

    def drop(self, name):
        if name not in self.wishes:
            raise Unknown(name)
        del self.wishes[name]

    def __len__(self):
        return len(self.wishes)
