"""The heap: cells, pairs and functions that lie in a room, and how those that can be reached are moved together.

A value is a whole number, True, False, EMPTY (the empty list), or a reference, which tells where a thing lies. A thing
is of a sort and holds values: a "cell" the head and the tail, a "pair" its two, a "function" where its code begins,
whether it knows itself, and what it keeps.
"""

from plainspeak.errors import NoRoom

EMPTY = None


class Heap:
    def __init__(self, room):
        self.room = room
        self.things = []
        self.made_so_far = 0

    def is_full(self):
        return len(self.things) >= self.room

    def used(self):
        return len(self.things)

    def made(self):
        return self.made_so_far

    def make(self, sort, held):
        if self.is_full():
            raise NoRoom("no more things may lie in the room")
        self.things.append((sort, tuple(held)))
        self.made_so_far += 1
        return reference_to(len(self.things) - 1)

    def sort_of(self, reference):
        return self.things[reference[1]][0]

    def held_by(self, reference):
        return self.things[reference[1]][1]

    # Whatever can't be reached from the values is gone. Told are the values with their references as they are now:
    # older references tell nothing any more.
    def move_together(self, values):
        places = new_places(self.things, values)
        things = []
        for place in places:
            thing = self.things[place]
            things.append((thing[0], tuple(moved(thing[1], places))))
        self.things = things
        return moved(values, places)


def reference_to(place):
    return ("at", place)


# Of all values references alone are tuples, so that no number is ever taken for one.
def is_reference(value):
    return isinstance(value, tuple)


# Where each thing that can be reached comes to lie, in this order. A list of things to go on with, not calls within
# calls, for a list in the room may be as long as the room is large.
def new_places(things, values):
    places = {}
    waiting = list(values)
    while waiting:
        value = waiting.pop()
        if is_reference(value) and value[1] not in places:
            places[value[1]] = len(places)
            waiting.extend(things[value[1]][1])
    return places


def moved(values, places):
    return [reference_to(places[value[1]]) if is_reference(value) else value for value in values]
