"""Graphs: procedures of points that draw, choose, call each other and end."""

from oddscall.errors import BadValue
from oddscall.points import targets_of
from oddscall.problems import check_procedures
from oddscall.wholes import is_index


class Graph:
    """A graph of procedures, which is never changed."""

    def __init__(self, *, procedures):
        check_procedures(procedures)
        self.procedures = procedures

    def is_chain(self):
        """Return True if the graph has no choices."""
        return all(self.point_at(place)[0] != "choose" for place in self.places())

    def places(self):
        """Return the list of all places in their order."""
        found = []
        for number, procedure in enumerate(self.procedures):
            found.extend([(number, index) for index in range(len(procedure[1]))])
        return found

    def is_place(self, value):
        """Return True if the value is a place of the graph."""
        if not isinstance(value, tuple) or len(value) != 2:
            return False
        number, index = value
        return is_index(number, len(self.procedures)) and is_index(index, len(self.procedures[number][1]))

    def point_at(self, place):
        """Return the point at the place."""
        if not self.is_place(place):
            raise BadValue("place")
        number, index = place
        return self.procedures[number][1][index]

    def ways(self, place):
        """Return the list of the ways of the place: its exits, being rejected, having stopped."""
        if not self.is_place(place):
            raise BadValue("place")
        return list(range(self.procedures[place[0]][0] + 2))

    def named(self, place):
        """Return the list of the places that the point at the place names, in their order."""
        point = self.point_at(place)
        found = [(place[0], index) for index in targets_of(point)]
        if point[0] == "call":
            found.append((point[1], 0))
        return sorted(set(found))

    def reached(self, place):
        """Return the list of the places that are reached from the place, in their order."""
        if not self.is_place(place):
            raise BadValue("place")
        found = {place: True}
        waiting = [place]
        while waiting:
            latest = waiting.pop()
            for other in self.named(latest):
                if other not in found:
                    found[other] = True
                    waiting.append(other)
        return sorted(found)
