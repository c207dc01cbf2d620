"""Solutions of told chains, found part after part."""

from oddscall.cutting import groups_beside
from oddscall.errors import TooLarge
from oddscall.fields import NOUGHT, UNIT, add, divide, multiply, root_of, subtract
from oddscall.linear import linear_solution
from oddscall.parts import told_parts
from oddscall.polynomials import padded, poly_at, poly_product, poly_sum
from oddscall.rationals import ZERO
from oddscall.weighing import row_beside

FOUR = ((4, 1), (0, 1))


def solve(graph):
    """Return an accepted solution of the graph."""
    live, found = told_parts(graph)
    search = Search(live)
    for part, curved, cut in found:
        if curved:
            search.solve_curved(part, cut)
        else:
            search.solve_straight(part)
    values = []
    for number, (exits, points) in enumerate(graph.procedures):
        values.append(tuple([search.values_at(number, index, exits + 2) for index in range(len(points))]))
    return (search.field, tuple(values), tuple(search.rows))


class Search:
    """The field, the values and the rows that were found so far."""

    def __init__(self, live):
        self.live = live
        self.field = 0
        self.known = {}
        self.rows = []

    def values_at(self, number, index, many):
        """Return the tuple of the values of a place with so many ways."""
        return tuple([self.known.get((number, index, way), NOUGHT) for way in range(many)])

    def solve_straight(self, part):
        """Find the values of a part that is not curved."""
        found = self.followed(part, {})
        for unknown in part:
            self.known[unknown] = found[unknown][0]

    def solve_curved(self, part, cut):
        """Find the values and the row of a curved part with this cut."""
        polys = {cut: (NOUGHT, UNIT)}
        groups = groups_beside(self.live, part, cut)
        for group in groups:
            found = self.followed(group, polys)
            for unknown in group:
                polys[unknown] = found[unknown]
        self.field, root = lesser_root(self.field, padded(self.total(self.live[cut], polys), 3))
        for unknown in part:
            self.known[unknown] = poly_at(self.field, polys[unknown], root)
        self.rows.append(row_beside(self.field, self.live, groups, part, cut, self.known))

    def followed(self, group, polys):
        """Return a dict with the polynomials that follow for the unknowns of a group from those found before."""
        columns = {unknown: column for column, unknown in enumerate(group)}
        rows = []
        rights = []
        for unknown in group:
            row = {columns[unknown]: UNIT}
            outer = []
            for chance, factors in self.live[unknown]:
                inner = [factor for factor in factors if factor in columns]
                if len(inner) == 0:
                    outer.append((chance, factors))
                else:
                    column = columns[inner[0]]
                    rest = [(chance, tuple([factor for factor in factors if factor not in columns]))]
                    weight = self.total(rest, {})[0]
                    row[column] = subtract(self.field, row.get(column, NOUGHT), weight)
            rows.append(row)
            rights.append(self.total(outer, polys))
        if rows == [{0: UNIT}]:
            return {group[0]: rights[0]}
        many = max(len(right) for right in rights)
        found = linear_solution(self.field, rows, [padded(right, many) for right in rights])
        return {unknown: found[column] for unknown, column in columns.items()}

    def total(self, terms, polys):
        """Return the total of the terms, a polynomial, with polynomials or else values put in for the unknowns."""
        total = (NOUGHT,)
        for chance, factors in terms:
            product = ((chance, ZERO),)
            for factor in factors:
                poly = polys[factor] if factor in polys else (self.known[factor],)
                product = poly_product(self.field, product, poly)
            total = poly_sum(self.field, total, product)
        return total


def lesser_root(field, coefficients):
    """Return the lesser solution of t = a + b * t + c * t * t, with the field in which it lies."""
    a, b, c = coefficients
    rest = subtract(field, UNIT, b)
    inside = subtract(field, multiply(field, rest, rest), multiply(field, FOUR, multiply(field, a, c)))
    root = root_of(field, inside)
    if root is None:
        if field != 0:
            raise TooLarge("field")
        # The root of n / d is the root of the integer n * d, over d.
        n, d = inside[0]
        field = n * d
        root = (ZERO, (1, d))
    return (field, divide(field, subtract(field, rest, root), add(field, c, c)))
