"""Points 47 to 51, 53 and 54, and oddscall/parts.py."""

import unittest

from oddscall.equations import live_terms, positives, unknowns
from oddscall.graphs import Graph
from oddscall.parts import cuts, degrees, groups_of, parts, why_not
from tests.helpers import ODD_VALUES, error_of
from tests.samples import all_kinds, chain_of_kinds, greatest_chain, random_chain, walk
from tests.told import (
    Literal, call_in_a_loop, call_out_of_a_loop, critical, crossed_loops, looped_before_the_call, random_recursion, root_of_a_root, rooted,
    straight, three_calls, twice, two_roots, with_inner_loop)


def samples():
    """Return chains with and without curved parts, some of which are not told."""
    named = [
        walk(), chain_of_kinds(), straight(), rooted(), critical(), with_inner_loop(), looped_before_the_call(),
        call_in_a_loop(), call_out_of_a_loop(), crossed_loops(), three_calls(), root_of_a_root((7, 23), (10, 23)),
        two_roots(((1, 4), (1, 2)), ((1, 3), (1, 2)))]
    return named + [random_chain(seed) for seed in range(40)] + [random_recursion(seed) for seed in range(250)]


class PartsTest(unittest.TestCase):
    def test_the_walk(self):
        self.assertEqual(parts(walk()), [
            (((0, 3, 0),), False, None), (((0, 0, 0), (0, 1, 0), (0, 2, 0)), True, (0, 0, 0))])

    def test_several_parts_in_order(self):
        # Of the parts that qualify, the one with the least unknown comes next: (1, 2, 0) has to wait for (0, 1, 2).
        first = (1, (("draw", (((1, 2), 1), ((1, 2), 2))), ("stop",), ("draw", (((1, 2), 0), ((1, 2), 3))), ("exit", 0)))
        second = (1, (("call", 0, (1,)), ("exit", 0), ("call", 1, (1,))))
        self.assertEqual(parts(Graph(procedures=(first, second))), [
            (((0, 1, 2),), False, None),
            (((0, 0, 2), (0, 2, 2)), False, None),
            (((0, 3, 0),), False, None),
            (((0, 0, 0), (0, 2, 0)), False, None),
            (((1, 0, 2),), False, None),
            (((1, 1, 0),), False, None),
            (((1, 0, 0),), False, None),
            (((1, 2, 0),), False, None),
            (((1, 2, 2),), False, None),
        ])

    def test_curved_and_not_curved(self):
        found = parts(rooted())
        self.assertEqual([len(part) for part, _, _ in found], [1, 3, 1, 3])
        self.assertEqual([curved for _, curved, _ in found], [False, True, False, False])
        self.assertEqual([cut for _, _, cut in found], [None, (0, 0, 0), None, None])
        self.assertTrue(all([not curved and cut is None for _, curved, cut in parts(straight())]))
        self.assertEqual([cut for _, curved, cut in parts(two_roots(((1, 4), (1, 2)), ((1, 3), (1, 2)))) if curved],
                         [(0, 0, 0), (1, 0, 0)])

    def test_a_single_unknown(self):
        graph = Graph(procedures=((1, (("draw", (((1, 2), 0), ((1, 2), 1))), ("exit", 0))),))
        self.assertEqual(parts(graph), [(((0, 1, 0),), False, None), (((0, 0, 0),), False, None)])
        # It is curved with itself as both factors of a term.
        graph = Graph(procedures=((1, (("draw", (((1, 2), 1), ((1, 2), 2))), ("call", 0, (0,)), ("exit", 0))),))
        self.assertEqual(parts(graph)[1:], [(((0, 0, 0), (0, 1, 0)), True, (0, 0, 0))])
        self.assertEqual(groups_of(graph, (0, 0, 0)), [((0, 1, 0),)])

    def test_factors_that_are_not_live_do_not_count(self):
        # The only call behind which the procedure is called again never goes on there.
        points = (("draw", (((1, 2), 1), ((1, 2), 2))), ("call", 0, (2, 3)), ("exit", 0), ("call", 0, (0, 0)), ("exit", 1))
        graph = Graph(procedures=((2, points),))
        self.assertNotIn(True, [curved for _, curved, _ in parts(graph)])

    def test_unknowns_that_are_not_positive_are_in_no_part(self):
        for graph in samples():
            found = [unknown for part, _, _ in parts(graph) for unknown in part]
            self.assertEqual(sorted(found), positives(graph))
            self.assertEqual(len(found), len(set(found)))
        self.assertEqual(parts(Graph(procedures=((1, (("call", 0, (0,)),)),))), [])

    def test_against_the_words_of_the_document(self):
        for graph in samples():
            literal = Literal(graph)
            found = parts(graph)
            self.assertEqual([part for part, _, _ in found], literal.parts)
            for index, (part, curved, cut) in enumerate(found):
                self.assertIsInstance(part, tuple)
                self.assertEqual(curved, literal.is_curved(part))
                wanted = literal.cuts(part)
                self.assertEqual(cuts(graph, index), wanted)
                self.assertEqual(cut, wanted[0] if wanted else None)

    def test_parts_of_the_largest_graphs(self):
        found = parts(greatest_chain())
        self.assertEqual(sum([len(part) for part, _, _ in found]), len(positives(greatest_chain())))
        self.assertEqual(why_not(greatest_chain()), ("part", 6))


class GroupsTest(unittest.TestCase):
    def test_single_and_looped_groups(self):
        self.assertEqual(groups_of(walk(), (0, 0, 0)), [((0, 2, 0),), ((0, 1, 0),)])
        self.assertEqual(groups_of(walk(), (0, 1, 0)), [((0, 0, 0),), ((0, 2, 0),)])
        self.assertEqual(groups_of(walk(), (0, 2, 0)), [((0, 0, 0), (0, 1, 0))])
        self.assertEqual(groups_of(call_in_a_loop(), (0, 0, 0)), [((0, 1, 0), (0, 2, 0))])
        self.assertEqual(groups_of(looped_before_the_call(), (0, 5, 0)), [
            ((0, 0, 0), (0, 1, 0), (0, 2, 0), (0, 3, 0)), ((0, 6, 0),)])

    def test_groups_that_qualify_together(self):
        points = (
            ("draw", (((1, 4), 4), ((1, 4), 3), ((1, 4), 2), ((1, 4), 1))), ("exit", 0), ("call", 0, (1,)), ("call", 0, (0,)),
            ("call", 0, (2,)))
        graph = Graph(procedures=((1, points),))
        self.assertEqual(groups_of(graph, (0, 0, 0)), [((0, 2, 0),), ((0, 3, 0),), ((0, 4, 0),)])

    def test_against_the_words_of_the_document(self):
        for graph in samples():
            literal = Literal(graph)
            for part in literal.parts:
                if literal.is_curved(part):
                    for unknown in part:
                        self.assertEqual(groups_of(graph, unknown), literal.groups(part, unknown)[0])

    def test_unknowns_of_no_curved_part(self):
        for unknown in ((0, 3, 0), (0, 0, 1), (0, 3, 1), (0, 0, 2)):
            self.assertEqual(error_of(groups_of, walk(), unknown), ("BadValue", "unknown"))
        for unknown in unknowns(straight()):
            self.assertEqual(error_of(groups_of, straight(), unknown), ("BadValue", "unknown"))


class DegreesTest(unittest.TestCase):
    def test_the_walk(self):
        self.assertEqual(degrees(walk(), (0, 0, 0)), [1, 2, 1])
        self.assertEqual(degrees(walk(), (0, 1, 0)), [1, 1, 1])
        self.assertIsNone(degrees(walk(), (0, 2, 0)))
        self.assertEqual(cuts(walk(), 1), [(0, 0, 0), (0, 1, 0)])

    def test_factors_from_outside_have_the_degree_0(self):
        graph = with_inner_loop()
        index = [curved for _, curved, _ in parts(graph)].index(True)
        self.assertEqual(parts(graph)[index], (((0, 0, 0), (0, 1, 0), (0, 2, 0)), True, (0, 0, 0)))
        self.assertEqual(degrees(graph, (0, 0, 0)), [1, 2, 1])
        self.assertEqual(degrees(looped_before_the_call(), (0, 0, 0)), [1, 2, 2, 2, 1, 1])
        self.assertEqual(degrees(looped_before_the_call(), (0, 2, 0)), [1, 1, 1, 2, 1, 1])
        self.assertEqual(cuts(looped_before_the_call(), 2), [(0, 0, 0), (0, 2, 0), (0, 3, 0)])

    def test_two_factors_outside_of_a_looped_group(self):
        graph = call_out_of_a_loop()
        part = ((0, 0, 1), (0, 1, 1), (0, 2, 1), (0, 3, 1))
        index = [curved for _, curved, _ in parts(graph)].index(True)
        self.assertEqual(parts(graph)[index], (part, True, (0, 0, 1)))
        self.assertEqual(groups_of(graph, (0, 0, 1)), [((0, 3, 1),), ((0, 1, 1), (0, 2, 1))])
        self.assertEqual(degrees(graph, (0, 0, 1)), [1, 2, 2, 1])

    def test_a_term_of_degree_3(self):
        # Beside the first unknown no group is looped, so the second condition alone is broken.
        self.assertEqual(groups_of(three_calls(), (0, 0, 0)), [((0, 3, 0),), ((0, 2, 0),), ((0, 1, 0),)])
        self.assertIsNone(degrees(three_calls(), (0, 0, 0)))
        self.assertEqual(cuts(three_calls(), 1), [])

    def test_a_second_factor_in_a_looped_group(self):
        # Beside the first unknown the degrees are 0, so the first condition alone is broken.
        self.assertIsNone(degrees(call_in_a_loop(), (0, 0, 0)))
        self.assertEqual(degrees(call_in_a_loop(), (0, 1, 0)), [1, 1, 2])
        self.assertEqual(degrees(call_in_a_loop(), (0, 2, 0)), [1, 1, 1])
        self.assertEqual(cuts(call_in_a_loop(), 1), [(0, 1, 0), (0, 2, 0)])

    def test_no_cut_of_a_part_that_is_not_curved(self):
        for index in range(len(parts(straight()))):
            self.assertEqual(cuts(straight(), index), [])
        for unknown in unknowns(straight()):
            self.assertIsNone(degrees(straight(), unknown))
        for unknown in ((0, 3, 0), (0, 0, 1), (0, 2, 2)):
            self.assertIsNone(degrees(walk(), unknown))

    def test_against_the_words_of_the_document(self):
        seen = set()
        for graph in samples():
            literal = Literal(graph)
            for part in literal.parts:
                for unknown in part:
                    wanted = literal.degrees(part, unknown) if literal.is_curved(part) else None
                    self.assertEqual(degrees(graph, unknown), wanted)
                    seen.update(wanted or [None])
        self.assertEqual(seen, {None, 1, 2})


class ToldTest(unittest.TestCase):
    def test_told(self):
        for graph in (walk(), straight(), rooted(), critical(), with_inner_loop(), looped_before_the_call(), call_in_a_loop()):
            self.assertIsNone(why_not(graph))

    def test_choices(self):
        self.assertEqual(why_not(all_kinds()), ("choices",))

    def test_the_first_part_without_a_cut(self):
        points = three_calls().procedures[0][1]
        other = tuple([("call", 1, point[2]) if point[0] == "call" else point for point in points])
        self.assertEqual(why_not(three_calls()), ("part", 1))
        # The parts of the first procedure come first, as theirs are the least unknowns.
        self.assertEqual(why_not(Graph(procedures=((1, points), (1, other)))), ("part", 1))
        self.assertEqual(why_not(Graph(procedures=(twice(0, (1, 3), (1, 2)), (1, other)))), ("part", 5))
        self.assertEqual(why_not(Graph(procedures=((1, points), twice(1, (1, 3), (1, 2))))), ("part", 1))
        self.assertEqual(why_not(crossed_loops()), ("part", 2))

    def test_by_the_parts(self):
        for graph in samples():
            missing = [index for index, (_, curved, cut) in enumerate(parts(graph)) if curved and cut is None]
            self.assertEqual(why_not(graph), ("part", missing[0]) if missing else None)


class WrongArgumentsTest(unittest.TestCase):
    def calls(self, graph, wrong):
        return [error_of(parts, graph), error_of(cuts, graph, wrong), error_of(degrees, graph, wrong), error_of(groups_of, graph, wrong)]

    def test_graphs(self):
        for value in ODD_VALUES + (0, walk().procedures):
            self.assertEqual(self.calls(value, None), [("BadValue", "graph")] * 4, value)
            self.assertEqual(error_of(why_not, value), ("BadValue", "graph"), value)

    def test_choices(self):
        self.assertEqual(self.calls(all_kinds(), None), [("NotTold", ("choices",))] * 4)

    def test_indexes_of_parts(self):
        for value in ODD_VALUES + (-1, 2, 100, (0,), "1"):
            self.assertEqual(error_of(cuts, walk(), value), ("BadValue", "part"), value)
        self.assertEqual(error_of(cuts, Graph(procedures=((0, (("call", 0, ()),)),)), 0), ("BadValue", "part"))

    def test_unknowns(self):
        for value in ODD_VALUES + (0, (0, 0), (0, 0, 3), (0, 4, 0), (1, 0, 0), (0, 0, -1), (0, 0, True), (False, 0, 0), (0, False, 0), [0, 0, 0], (0, 0, 0, 0)):
            self.assertEqual(error_of(degrees, walk(), value), ("BadValue", "unknown"), value)
            self.assertEqual(error_of(groups_of, walk(), value), ("BadValue", "unknown"), value)

    def test_the_graph_need_not_be_told(self):
        self.assertEqual(cuts(three_calls(), 1), [])
        self.assertEqual(cuts(three_calls(), 0), [])
        self.assertIsNone(degrees(three_calls(), (0, 1, 0)))
        self.assertEqual(groups_of(three_calls(), (0, 3, 0)), [((0, 0, 0), (0, 1, 0), (0, 2, 0))])


class ReturnedListsTest(unittest.TestCase):
    def test_they_are_new_ones(self):
        for call in (lambda: parts(walk()), lambda: cuts(walk(), 1), lambda: degrees(walk(), (0, 0, 0)),
                     lambda: groups_of(walk(), (0, 0, 0))):
            first, kept = call(), call()
            self.assertIsInstance(first, list)
            first.clear()
            self.assertEqual(call(), kept)
        before = live_terms(walk())
        parts(walk())
        self.assertEqual(live_terms(walk()), before)


if __name__ == "__main__":
    unittest.main()
