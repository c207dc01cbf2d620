"""Ledgers: a told chain that is edited, and facts about its chances that stand or have fallen."""

from oddscall.chances import chance
from oddscall.checks import check_place
from oddscall.errors import BadValue, TooLarge
from oddscall.graphs import Graph
from oddscall.parts import told_parts
from oddscall.problems import is_pair
from oddscall.wholes import is_index

MOST_MOVES = 100
RECORD = "record"
EDIT = "edit"


class Ledger:
    """A graph, the facts that were recorded, and the moves that can be taken back."""

    def __init__(self, graph):
        told_parts(graph)
        self.procedures = graph.procedures
        # Each fact is a tuple of a place, a way and a chance; those that stand have their numbers in the dict.
        self.facts = []
        self.upright = {}
        # A move is a tuple of its word, and for an edit the place, the new point, the old one and the facts that fell.
        self.moves = []

    def graph(self):
        """Return the present graph."""
        return Graph(procedures=self.procedures)

    def record(self, solution, place, way):
        """Record the chance of the way from the place as a fact, and return its number."""
        found = chance(self.graph(), solution, place, way)
        self.check_room()
        number = len(self.facts)
        self.facts.append((place, way, found))
        self.upright[number] = True
        self.moves.append((RECORD,))
        return number

    def edit(self, place, point):
        """Put a point in a place, and return the list of the numbers of the facts that fall."""
        fallen = self.falling(place)
        old = self.graph().point_at(place)
        edited = with_point(self.procedures, place, point)
        told_parts(Graph(procedures=edited))
        self.check_room()
        self.procedures = edited
        for number in fallen:
            del self.upright[number]
        self.moves.append((EDIT, place, point, old, tuple(fallen)))
        return fallen

    def fact(self, number):
        """Return the tuple of the place, the way and the chance of a fact."""
        self.check_number(number)
        return self.facts[number]

    def stands(self, number):
        """Return True if the fact stands."""
        self.check_number(number)
        return number in self.upright

    def standing(self):
        """Return the list of the numbers of the facts that stand."""
        return sorted(self.upright)

    def falling(self, place):
        """Return the list of the numbers of the facts that would fall by an edit of the place."""
        graph = self.graph()
        check_place(graph, place)
        return [number for number in self.standing() if place in graph.reached(self.facts[number][0])]

    def rests_on(self, place):
        """Return the list of the places on which the place rests."""
        return self.graph().reached(place)

    def undo(self):
        """Take the last move back, and return its word, or None if there is no move."""
        if len(self.moves) == 0:
            return None
        move = self.moves.pop()
        if move[0] == RECORD:
            self.facts.pop()
            # A fact stands again when the edits behind its record are taken back.
            del self.upright[len(self.facts)]
        else:
            _, place, _, old, fallen = move
            self.procedures = with_point(self.procedures, place, old)
            for number in fallen:
                self.upright[number] = True
        return move[0]

    def edits(self):
        """Return the list of the pairs of a place and a point of the edits that are moves."""
        return [(move[1], move[2]) for move in self.moves if move[0] == EDIT]

    def copy(self):
        """Return a new ledger that equals this one."""
        other = Ledger(self.graph())
        other.facts = list(self.facts)
        other.upright = {number: True for number in self.upright}
        other.moves = list(self.moves)
        return other

    def check_number(self, number):
        """Raise BadValue if there is no fact with this number."""
        if not is_index(number, len(self.facts)):
            raise BadValue("number")

    def check_room(self):
        """Raise TooLarge if there is no room for a further move."""
        if len(self.moves) >= MOST_MOVES:
            raise TooLarge("moves")


def replay(graph, edits):
    """Return a new ledger of the graph, after these edits."""
    ledger = Ledger(graph)
    if not isinstance(edits, list) or len(edits) > MOST_MOVES or not all(is_pair(edit) for edit in edits):
        raise BadValue("edits")
    for place, point in edits:
        ledger.edit(place, point)
    return ledger


def with_point(procedures, place, point):
    """Return the procedures with the point in the place."""
    number, index = place
    exits, points = procedures[number]
    changed = (exits, points[:index] + (point,) + points[index + 1:])
    return procedures[:number] + (changed,) + procedures[number + 1:]
