"""Components of graphs in their order, which parts, groups and blocks share."""

import random
import unittest

from oddscall.components import is_looped, ordered_components


class ComponentsTest(unittest.TestCase):
    def test_the_least_node_comes_first_where_several_qualify(self):
        self.assertEqual(ordered_components({3: [], 1: [], 2: [], 0: [3]}), [(1,), (2,), (3,), (0,)])
        self.assertEqual(ordered_components({0: [5], 5: [0], 1: [4], 4: [4, 1], 2: [], 3: [0, 2]}), [(0, 5), (1, 4), (2,), (3,)])

    def test_nothing(self):
        self.assertEqual(ordered_components({}), [])

    def test_a_long_way(self):
        many = 3000
        forward = {node: [node + 1] for node in range(many)} | {many: []}
        self.assertEqual(ordered_components(forward), [(node,) for node in range(many, -1, -1)])
        self.assertEqual(ordered_components(forward | {many: [0]}), [tuple(range(many + 1))])

    def test_looped(self):
        leads = {0: [1], 1: [0], 2: [2], 3: [0]}
        self.assertTrue(is_looped((0, 1), leads))
        self.assertTrue(is_looped((2,), leads))
        self.assertFalse(is_looped((3,), leads))

    def test_against_the_definition(self):
        for seed in range(200):
            dice = random.Random(seed)
            many = dice.randrange(1, 9)
            leads = {node: [dice.randrange(many) for _ in range(dice.randrange(3))] for node in range(many)}
            found = ordered_components(leads)
            self.assertEqual(sorted([node for component in found for node in component]), list(range(many)))
            below = {node: self.reached(leads, node) for node in leads}
            done = set()
            for at, component in enumerate(found):
                for node in component:
                    self.assertEqual([other for other in leads if other in below[node] and node in below[other]], list(component))
                    self.assertLessEqual(below[node], done | set(component))
                ready = [later for later in found[at:] if all([below[node] <= done | set(later) for node in later])]
                self.assertEqual(component, min(ready))
                done |= set(component)

    def reached(self, leads, start):
        found = {start}
        for _ in leads:
            found |= {other for node in found for other in leads[node]}
        return found


if __name__ == "__main__":
    unittest.main()
