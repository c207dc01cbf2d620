"""Linear equations over fields, and loose numbers, which several chapters share."""

import random
import unittest
from fractions import Fraction

from oddscall.fields import multiply, sign_of
from oddscall.linear import kernel_vector, linear_solution
from oddscall.loose import are_same, loose_opposite, loose_product, loose_sign, loose_sum, loosened, tightened
from tests.told import Root, root


def random_element(dice, field, zero=0.4):
    """Return a random element, which is 0 with this chance."""
    if dice.random() < zero:
        return ((0, 1), (0, 1))
    y = Fraction(dice.randrange(-5, 6), dice.randrange(1, 7)) if field and dice.random() < 0.7 else 0
    return Root(field, Fraction(dice.randrange(-5, 6), dice.randrange(1, 7)), y).element()


def total(field, row, numbers):
    """Return the sum of the products of a row and numbers."""
    found = Root(field, 0)
    for column, item in row.items():
        found = found + root(field, item) * root(field, numbers[column])
    return found.element()


class LinearTest(unittest.TestCase):
    def test_random_equations(self):
        solved = singular = 0
        for seed in range(300):
            dice = random.Random(seed)
            field = dice.choice((0, 2, 45))
            many = dice.randrange(1, 7)
            rows = [{column: random_element(dice, field) for column in range(many)} for _ in range(many)]
            rights = [(random_element(dice, field), random_element(dice, field)) for _ in range(many)]
            found = linear_solution(field, rows, rights)
            kernel = kernel_vector(field, rows)
            self.assertEqual(found is None, kernel is not None)
            if found is None:
                singular += 1
                self.assertEqual(len(kernel), many)
                self.assertNotEqual(kernel, [((0, 1), (0, 1))] * many)
                for row in rows:
                    self.assertEqual(total(field, row, kernel), ((0, 1), (0, 1)))
            else:
                solved += 1
                for at in range(2):
                    numbers = [answer[at] for answer in found]
                    self.assertEqual([total(field, row, numbers) for row in rows], [right[at] for right in rights])
        self.assertGreater(solved, 50)
        self.assertGreater(singular, 50)

    def test_rows_that_depend_on_each_other(self):
        one = ((1, 1), (0, 1))
        two = ((2, 1), (0, 1))
        rows = [{0: one, 1: two}, {0: two, 1: ((4, 1), (0, 1))}]
        self.assertIsNone(linear_solution(0, rows, [(one,), (one,)]))
        self.assertIsNone(linear_solution(0, rows, [(one,), (two,)]))
        x, y = kernel_vector(0, rows)
        self.assertEqual(Fraction(*x[0]) + 2 * Fraction(*y[0]), 0)
        # In a field with a root, rows may depend on each other by the root.
        rows = [{0: one, 1: ((0, 1), (1, 1))}, {0: ((0, 1), (1, 1)), 1: two}]
        self.assertIsNone(linear_solution(2, rows, [(one,), (one,)]))
        self.assertIsNotNone(linear_solution(3, rows, [(one,), (one,)]))

    def test_many_unknowns(self):
        dice = random.Random(0)
        many = 120
        rows = []
        for at in range(many):
            row = {at: ((1, 1), (0, 1))}
            for _ in range(3):
                row[dice.randrange(many)] = ((-dice.randrange(1, 20), 60), (0, 1))
            rows.append(row)
        found = linear_solution(0, rows, [(((1, 1), (0, 1)),)] * many)
        numbers = [answer[0] for answer in found]
        for row in rows:
            self.assertEqual(total(0, row, numbers), ((1, 1), (0, 1)))


class LooseTest(unittest.TestCase):
    def test_random_numbers(self):
        for seed in range(300):
            dice = random.Random(seed)
            field = dice.choice((0, 2, 3, 45))
            a, b = random_element(dice, field, 0.1), random_element(dice, field, 0.1)
            x, y = loosened(a), loosened(b)
            self.assertEqual(tightened(x), a)
            self.assertEqual(tightened(loose_sum(x, y)), (root(field, a) + root(field, b)).element())
            self.assertEqual(tightened(loose_product(field, x, y)), (root(field, a) * root(field, b)).element())
            self.assertEqual(tightened(loose_product(field, x, y)), multiply(field, a, b))
            self.assertEqual(tightened(loose_opposite(x)), (root(field, a) * Root(field, -1)).element())
            self.assertEqual(are_same(x, y), a == b)
            self.assertTrue(are_same(x, (7 * x[0], 7 * x[1], 7 * x[2])))
            self.assertEqual(loose_sign(field, x), sign_of(field, a))


if __name__ == "__main__":
    unittest.main()
