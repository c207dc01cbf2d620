"""Points 56, 58, 59 and 63, and oddscall/judging.py."""

import unittest
from fractions import Fraction

from oddscall.equations import positives, unknowns
from oddscall.errors import TooLarge
from oddscall.graphs import Graph
from oddscall.judging import accepts
from oddscall.linear import linear_solution
from oddscall.parts import parts, why_not
from oddscall.slopes import slope
from oddscall.solving import solve
from tests.helpers import ODD_VALUES, error_of
from tests.samples import all_kinds, random_chain, walk
from tests.told import (
    Root, critical, looped_before_the_call, random_recursion, root, root_of_a_root, rooted, straight, three_calls, twice, two_roots,
    value_at, with_inner_loop, with_value)

ZERO = ((0, 1), (0, 1))
ONE = ((1, 1), (0, 1))


def element(x, y=0):
    """Return an element of two fractions."""
    return Root(0, x, y).element()


def told():
    """Return told chains whose chances lie in one field."""
    return [
        walk(), straight(), rooted(), critical(), with_inner_loop(), looped_before_the_call(), root_of_a_root((7, 23), (10, 23)),
        two_roots(((1, 4), (1, 2)), ((1, 6), (1, 6)))]


def changed_rows(rows, part, at, item):
    """Return the rows with another element at one place."""
    row = rows[part][:at] + (item,) + rows[part][at + 1:]
    return rows[:part] + (row,) + rows[part + 1:]


class AcceptedTest(unittest.TestCase):
    def test_what_solve_returns(self):
        for graph in told():
            self.assertIs(accepts(graph, solve(graph)), True)

    def test_random_chains(self):
        curved = 0
        for graph in [random_chain(seed) for seed in range(40)] + [random_recursion(seed) for seed in range(400)]:
            if why_not(graph) is None:
                try:
                    solution = solve(graph)
                except TooLarge:
                    continue
                self.assertIs(accepts(graph, solution), True)
                curved += len(solution[2])
        self.assertGreater(curved, 20)

    def test_a_solution_that_somebody_wrote(self):
        half, quarter = element(Fraction(1, 2)), element(Fraction(1, 4))
        values = (((half, ZERO, ZERO), (quarter, ZERO, ZERO), (half, ZERO, ZERO), (ONE, ZERO, ZERO)),)
        # 1 * 2/3 for the second one, then 1/2 + 1/4 and 1/2 * 2/3 for the others: 3 * 1/3 at the first, 2/3 and 1/3.
        row = (ONE, element(Fraction(2, 3)), element(Fraction(1, 3)))
        for field in (0, 2, 3, 10 ** 40 + 1):
            self.assertIs(accepts(walk(), (field, values, (row,))), True)
        self.assertIs(accepts(walk(), (0, values, ((element(5), element(4), element(3)),))), True)

    def test_the_same_numbers_in_another_form_of_the_field(self):
        graph = rooted()
        field, values, rows = solve(graph)
        self.assertEqual(field, 2)

        def moved(item):
            return (item[0], (Fraction(*item[1]) / 3).as_integer_ratio())

        other = tuple([tuple([tuple([moved(item) for item in row]) for row in points]) for points in values])
        more = tuple([tuple([moved(item) for item in row]) for row in rows])
        self.assertIs(accepts(graph, (18, other, more)), True)
        self.assertIs(accepts(graph, (18, values, rows)), False)

    def test_rows_may_be_multiplied(self):
        for graph in told():
            field, values, rows = solve(graph)
            for factor in (Root(field, Fraction(7, 3)), Root(field, 2, 1 if field else 0)):
                other = tuple([tuple([(root(field, item) * factor).element() for item in row]) for row in rows])
                self.assertIs(accepts(graph, (field, values, other)), True)

    def test_rows_with_and_without_room(self):
        # For the row (a, b, c) it has to hold that b / 2 + c <= a, 2/3 * a <= b and b / 2 <= c.
        field, values, _ = solve(walk())
        third = Fraction(1, 3)
        for row, wanted in (
                ((1, 2 * third, third), True), ((1, Fraction(7, 10), Fraction(1, 2)), True), ((3, 3, Fraction(3, 2)), True),
                ((3, 3, Fraction(8, 5)), False), ((Fraction(101, 100), 2 * third, third), False), ((1, Fraction(2, 3), Fraction(1, 4)), False),
                ((1, 1, 1), False), ((100, 1, 1), False), ((1, 100, 1), False), ((1, 1, 100), False), ((10, 10, 5), True)):
            items = tuple([element(item) for item in row])
            self.assertIs(accepts(walk(), (field, values, (items,))), wanted, row)

    def test_no_room_at_a_critical_chain(self):
        graph = critical()
        field, values, rows = solve(graph)
        for at in range(3):
            for factor in (Fraction(99, 100), Fraction(101, 100)):
                item = element(Fraction(*rows[0][at][0]) * factor)
                self.assertIs(accepts(graph, (field, values, changed_rows(rows, 0, at, item))), False)


class RejectedTest(unittest.TestCase):
    def test_the_value_of_one_unknown(self):
        for graph in told():
            field, values, rows = solve(graph)
            for unknown in unknowns(graph):
                for more in (Root(field, Fraction(1, 1000)), Root(field, Fraction(-1, 10 ** 9)), Root(field, 0, 1 if field else -1)):
                    item = (root(field, value_at(values, unknown)) + more).element()
                    self.assertIs(accepts(graph, (field, with_value(values, unknown, item), rows)), False)

    def test_values_that_satisfy_the_equations_but_are_not_positive(self):
        # x = x for a loop, so any number is its right side.
        graph = Graph(procedures=((1, (("draw", (((1, 1), 0),)), ("exit", 0))),))
        field, values, rows = solve(graph)
        self.assertEqual(values[0][0], (ZERO, ZERO, ZERO))
        for number in (Fraction(1, 2), Fraction(1), Fraction(-1, 3)):
            for way in range(3):
                self.assertIs(accepts(graph, (field, with_value(values, (0, 0, way), element(number)), rows)), False)

    def test_positive_unknowns_that_are_0_or_negative(self):
        for graph in told():
            field, values, rows = solve(graph)
            for unknown in positives(graph):
                for item in (ZERO, (root(field, value_at(values, unknown)) * Root(field, -1)).element()):
                    self.assertIs(accepts(graph, (field, with_value(values, unknown, item), rows)), False)

    def test_the_greater_root(self):
        zero = ((0, 1), (0, 1))
        one = ((1, 1), (0, 1))
        values = (((one, zero, zero),) * 4,)
        for row in ((one, one, one), (one, element(Fraction(2, 3)), element(Fraction(2, 3))), (element(3), element(2), element(2))):
            self.assertIs(accepts(walk(), (0, values, (row,))), False)
        graph = rooted()
        field, values, rows = solve(graph)
        greater = tuple([tuple([tuple([(x, (-y[0], y[1])) for x, y in row]) for row in points]) for points in values])
        self.assertIs(accepts(graph, (field, greater, rows)), False)
        more = tuple([tuple([(x, (-y[0], y[1])) for x, y in row]) for row in rows])
        self.assertIs(accepts(graph, (field, greater, more)), False)

    def test_rows_with_elements_that_are_not_positive(self):
        for graph in told():
            field, values, rows = solve(graph)
            for part, row in enumerate(rows):
                for at in range(len(row)):
                    for item in (ZERO, element(-1), (root(field, row[at]) * Root(field, -1)).element()):
                        self.assertIs(accepts(graph, (field, values, changed_rows(rows, part, at, item))), False)
                    all_negative = tuple([(root(field, item) * Root(field, -1)).element() for item in row])
                self.assertIs(accepts(graph, (field, values, rows[:part] + (all_negative,) + rows[part + 1:])), False)

    def test_rows_of_zeros(self):
        for graph in told():
            field, values, rows = solve(graph)
            for part, row in enumerate(rows):
                zeros = (ZERO,) * len(row)
                self.assertIs(accepts(graph, (field, values, rows[:part] + (zeros,) + rows[part + 1:])), False)

    def test_some_numbers_of_the_row_are_negative(self):
        # x = 19/20 + x * x / 20 for the greater solution 19: rows that the slopes do not raise exist, but none is positive.
        heads = ("draw", (((1, 30), 1), ((1, 60), 3), ((19, 20), 4)))
        graph = Graph(procedures=((1, (heads, ("call", 0, (2,)), ("call", 0, (4,)), ("call", 0, (2,)), ("exit", 0))),))
        numbers = (19, 19 * 19, 19, 19 * 19, 1)
        values = (tuple([(element(number), ZERO, ZERO) for number in numbers]),)
        part = [(0, index, 0) for index in range(4)]
        self.assertEqual([unknown for unknown, _, _ in parts(graph)[1:]], [tuple(part)])
        columns = []
        for at, second in enumerate(part):
            slopes = [slope(graph, first, second, 0, values) for first in part]
            columns.append({other: element((other == at) - Fraction(*item[0])) for other, item in enumerate(slopes)})
        mixed = 0
        for at in range(4):
            found = linear_solution(0, columns, [(element(other == at),) for other in range(4)])
            row = tuple([answer[0] for answer in found])
            signs = {Fraction(*item[0]) > 0 for item in row}
            mixed += len(signs) == 2
            self.assertIs(accepts(graph, (0, values, (row,))), False)
        self.assertGreater(mixed, 0)

    def test_a_row_that_does_not_fit_in_each_part(self):
        graph = two_roots(((1, 4), (1, 2)), ((1, 6), (1, 6)))
        field, values, rows = solve(graph)
        self.assertEqual(len(rows), 2)
        small = (element(Fraction(1, 1000)), ONE, ONE)
        for part in range(2):
            self.assertIs(accepts(graph, (field, values, rows[:part] + (small,) + rows[part + 1:])), False)


class FormTest(unittest.TestCase):
    def wrong(self, graph, value):
        self.assertIs(accepts(graph, value), False, value)

    def test_any_value(self):
        for graph in (walk(), straight(), rooted()):
            for value in ODD_VALUES + (0, 1, (0, 0, 0), (0, (), ()), (0, ((),), ()), (None,) * 3, [0, (), ()], "abc", (0, None, None)):
                self.wrong(graph, value)

    def test_items_of_the_solution(self):
        for graph in (walk(), straight(), rooted()):
            field, values, rows = solve(graph)
            for value in ODD_VALUES + (-1, -2, 1, 4, 9, 10 ** 40, (field,), str(field)):
                self.wrong(graph, (value, values, rows))
                self.wrong(graph, (field, value, rows))
                if value != rows:
                    self.wrong(graph, (field, values, value))
            self.wrong(graph, [field, values, rows])
            self.wrong(graph, (field, values))
            self.wrong(graph, (field, values, rows, ()))
            self.wrong(graph, (field, list(values), rows))
            self.wrong(graph, (field, values, list(rows)))
            self.wrong(graph, (field, values + (values[0],), rows))
            self.wrong(graph, (field, values[:-1], rows))
            self.wrong(graph, (field, values, rows + ((ONE,),)))
            self.wrong(graph, (field, values, rows + ((),)))
        field, values, rows = solve(rooted())
        self.wrong(rooted(), (field, values, rows[:-1]))
        self.wrong(rooted(), (0, values, rows))
        self.wrong(rooted(), (3, values, rows))

    def test_items_of_the_values(self):
        graph = rooted()
        field, values, rows = solve(graph)
        points = values[0]
        for value in ODD_VALUES + (list(points), points + (points[0],), points[:-1]):
            self.wrong(graph, (field, (value,), rows))
        for index, row in enumerate(points):
            for value in ODD_VALUES + (list(row), row + (ZERO,), row[:-1]):
                self.wrong(graph, (field, (points[:index] + (value,) + points[index + 1:],), rows))

    def test_single_elements(self):
        graph = rooted()
        field, values, rows = solve(graph)
        bad = ODD_VALUES + (
            0, 1, (0, 1), ((0, 1),), ((0, 1), 0), ((0, 2), (0, 1)), ((0, 1), (0, 2)), ((0, -1), (0, 1)), [(0, 1), (0, 1)],
            ([0, 1], (0, 1)), ((False, 1), (0, 1)), ((0, True), (0, 1)), ((0, 1), (0, 1), (0, 1)), ((0, 0), (0, 1)), ("0", "1"),
            ((None, 1), (0, 1)), ((1, 2, 3), (0, 1)))
        for value in bad:
            for unknown in unknowns(graph):
                self.wrong(graph, (field, with_value(values, unknown, value), rows))
            for at in range(3):
                self.wrong(graph, (field, values, changed_rows(rows, 0, at, value)))
        # In the field 0 the second rational is 0.
        field, values, rows = solve(walk())
        self.wrong(walk(), (field, with_value(values, (0, 0, 0), ((1, 2), (1, 1))), rows))
        self.wrong(walk(), (field, values, changed_rows(rows, 0, 0, ((1, 1), (1, 1)))))

    def test_rows(self):
        for graph in (rooted(), two_roots(((1, 4), (1, 2)), ((1, 6), (1, 6)))):
            field, values, rows = solve(graph)
            for part, row in enumerate(rows):
                for value in ODD_VALUES + (list(row), row + (ONE,), row[:-1]):
                    self.wrong(graph, (field, values, rows[:part] + (value,) + rows[part + 1:]))
        self.wrong(straight(), solve(straight())[:2] + (((),),))

    def test_the_solution_of_another_graph(self):
        for graph in told():
            for other in told():
                if graph.procedures != other.procedures:
                    self.wrong(graph, solve(other))


class EqualNumbersTest(unittest.TestCase):
    def test_values_are_0_or_greater(self):
        for graph in told():
            field, values, _ = solve(graph)
            positive = positives(graph)
            for unknown in unknowns(graph):
                self.assertEqual(value_at(values, unknown) != ZERO, unknown in positive)


class WrongArgumentsTest(unittest.TestCase):
    def test_graphs(self):
        for value in ODD_VALUES + (0, walk().procedures):
            self.assertEqual(error_of(accepts, value, None), ("BadValue", "graph"), value)

    def test_graphs_that_are_not_told(self):
        self.assertEqual(error_of(accepts, all_kinds(), None), ("NotTold", ("choices",)))
        self.assertEqual(error_of(accepts, three_calls(), None), ("NotTold", ("part", 1)))
        graph = Graph(procedures=(twice(0, (1, 3), (1, 2)), (1, (("choose", (0,)),))))
        self.assertEqual(error_of(accepts, graph, None), ("NotTold", ("choices",)))


if __name__ == "__main__":
    unittest.main()
