"""Points 22, 23 and 26: what is no graph, and the first problem of it."""

import unittest

from oddscall.graphs import Graph
from tests.helpers import ODD_VALUES, error_of

NO_INTEGERS = ODD_VALUES + ((0,), "0")
STOP = ("stop",)
EXIT = ("exit", 0)


def problem(procedures):
    """Return where and why these procedures are no graph, or None if they are one."""
    error = error_of(Graph, procedures=procedures)
    if error is None:
        return None
    assert error[0] == "BadGraph", error
    return error[1:]


def with_point(point):
    """Return procedures with this point behind two others; the procedures have 1, 2 and 0 exits and 3, 1 and 1 points."""
    return ((1, (EXIT, STOP, point)), (2, (STOP,)), (0, (STOP,)))


class ProblemsTest(unittest.TestCase):
    def right(self, procedures):
        self.assertIsNone(problem(procedures), procedures)

    def wrong(self, procedures, where, why):
        self.assertEqual(problem(procedures), (where, why), procedures)

    def right_point(self, point):
        self.right(with_point(point))

    def wrong_point(self, point, why):
        self.wrong(with_point(point), (0, 2), why)


class WholeTest(ProblemsTest):
    def test_the_procedures_are_a_tuple(self):
        for value in ODD_VALUES:
            if not isinstance(value, tuple):
                self.wrong(value, (), "form")
        self.wrong([(1, (EXIT,))], (), "form")

    def test_there_are_1_to_6(self):
        self.wrong((), (), "many")
        for many in range(1, 7):
            self.right(((0, (STOP,)),) * many)
        self.wrong(((0, (STOP,)),) * 7, (), "many")

    def test_there_are_at_most_40_points(self):
        def of(*sizes):
            return tuple([(0, (STOP,) * size) for size in sizes])
        self.right(of(16, 16, 8))
        self.wrong(of(16, 16, 9), (), "many")
        self.right(of(7, 7, 7, 7, 6, 6))
        self.wrong(of(7, 7, 7, 7, 7, 6), (), "many")
        self.wrong(of(16, 16, 16, 16, 16, 16), (), "many")

    def test_too_many_come_ahead_of_the_single_ones(self):
        self.wrong((None,) * 7, (), "many")

    def test_too_many_points_come_behind_the_procedures_and_ahead_of_the_points(self):
        many = ((0, (STOP,) * 16),) * 3
        self.wrong(many + ((4, (STOP,)),), (3,), "exits")
        self.wrong(many + ((0, ()),), (3,), "points")
        self.wrong(many + (None,), (3,), "form")
        self.wrong(((0, (None,) * 16),) * 3, (), "many")


class ProcedureTest(ProblemsTest):
    def test_a_procedure_is_a_pair_of_an_integer_and_a_tuple(self):
        for value in ODD_VALUES + (5, (1,), (1, (EXIT,), 0), [1, (EXIT,)], (1, [EXIT]), ((EXIT,), 1), "ab", (1, "a"), (1, EXIT[1])):
            self.wrong((value,), (0,), "form")
        for value in NO_INTEGERS:
            self.wrong(((value, (STOP,)),), (0,), "form")

    def test_there_are_0_to_3_exits(self):
        for exits in range(4):
            self.right(((exits, (STOP,)),))
        for exits in (-1, 4, 5, -10 ** 20, 10 ** 20):
            self.wrong(((exits, (STOP,)),), (0,), "exits")

    def test_there_are_1_to_16_points(self):
        self.wrong(((0, ()),), (0,), "points")
        for many in (1, 2, 15, 16):
            self.right(((0, (STOP,) * many),))
        for many in (17, 18, 41):
            self.wrong(((0, (STOP,) * many),), (0,), "points")

    def test_the_order(self):
        self.wrong(((True, ()),), (0,), "form")
        self.wrong(((4, []),), (0,), "form")
        self.wrong(((4, ()),), (0,), "exits")
        self.wrong(((0, (STOP,)), (0, ()), (4, (STOP,)), None), (1,), "points")
        self.wrong(((0, (STOP,)), (4, ()), (0, ()), None), (1,), "exits")
        self.wrong(((0, (STOP,)), None, (4, ()), (0, ())), (1,), "form")

    def test_procedures_come_ahead_of_points(self):
        self.wrong(((0, (None,)), (4, (STOP,))), (1,), "exits")


class FormTest(ProblemsTest):
    def test_points_of_all_kinds(self):
        for point in (EXIT, ("draw", (((1, 1), 0),)), ("choose", (0,)), ("call", 0, (1,)), ("call", 2, ()),
                      ("reward", (0, 1), 2), ("reject",), STOP):
            self.right_point(point)

    def test_values_that_are_no_points(self):
        for value in ODD_VALUES + (0, "stop", "exit", ["stop"], ["exit", 0], (STOP,), ("Stop",), ("end",), ("exits", 0),
                                   (0,), (None,), (True, 0), (["stop"],), ([], ()), ((), 0)):
            self.wrong_point(value, "form")

    def test_more_or_fewer_parts(self):
        for value in (("exit",), ("exit", 0, 0), ("draw",), ("draw", (((1, 1), 0),), 0), ("choose",), ("choose", (0,), 0),
                      ("call",), ("call", 0), ("call", 0, (1,), 0), ("call", (1,)), ("reward",), ("reward", (1, 1)),
                      ("reward", (1, 1), 0, 0), ("reject", 0), ("reject", ()), ("stop", 0), ("stop", ())):
            self.wrong_point(value, "form")

    def test_an_exit_is_an_integer(self):
        for value in NO_INTEGERS:
            self.wrong_point(("exit", value), "form")

    def test_branches_are_a_tuple_of_pairs(self):
        for value in ODD_VALUES + (0,):
            if value != ():
                self.wrong_point(("draw", value), "form")
        for branch in (None, 0, [(1, 1), 0], ((1, 1),), ((1, 1), 0, 0), "ab", (), ((1, 1), 0, None)):
            self.wrong_point(("draw", (branch,)), "form")
            self.wrong_point(("draw", (((1, 2), 0), branch)), "form")
        self.wrong_point(("draw", [((1, 1), 0)]), "form")

    def test_the_points_of_a_choice_are_a_tuple(self):
        for value in (None, 0, True, "ab", [0], []):
            self.wrong_point(("choose", value), "form")

    def test_a_call_has_an_integer_and_a_tuple(self):
        for value in NO_INTEGERS:
            self.wrong_point(("call", value, (1,)), "form")
        for value in (None, 0, True, "ab", [0], []):
            self.wrong_point(("call", 0, value), "form")

    def test_the_form_comes_first(self):
        self.wrong_point(("draw", ((None, None),) * 5 + (0,)), "form")
        self.wrong_point(("draw", (((1, 3), 9), None)), "form")
        self.wrong_point(("call", 9, [0]), "form")
        self.wrong_point(("call", True, (0, 0, 0)), "form")

    def test_points_are_checked_in_the_order_of_places(self):
        bad = ("exit", 5)
        self.wrong(((1, (EXIT, STOP, bad)), (1, (None,))), (0, 2), "exit")
        self.wrong(((1, (EXIT, STOP)), (1, (STOP, bad, None))), (1, 1), "exit")
        self.wrong(((1, (EXIT, None, bad)), (1, (bad,))), (0, 1), "form")
        self.wrong(((1, (bad, None)), (1, (bad,))), (0, 0), "exit")
        self.wrong(((1, (STOP,)),) * 5 + ((1, (STOP,) * 15 + (bad,)),), (5, 15), "exit")


class ExitTest(ProblemsTest):
    def test_one_of_the_exits_of_its_procedure(self):
        for exits in range(4):
            for e in range(exits):
                self.right(((exits, (("exit", e),)),))
            for e in (exits, exits + 1, -1, 10 ** 20):
                self.wrong(((exits, (("exit", e),)),), (0, 0), "exit")

    def test_the_exits_of_other_procedures_do_not_count(self):
        self.wrong(((1, (("exit", 1),)), (3, (STOP,))), (0, 0), "exit")
        self.wrong(((3, (STOP,)), (1, (("exit", 1),))), (1, 0), "exit")


class DrawTest(ProblemsTest):
    def test_there_are_1_to_4_branches(self):
        self.wrong_point(("draw", ()), "branches")
        for many in range(1, 5):
            self.right_point(("draw", (((1, many), 0),) * many))
        self.wrong_point(("draw", (((1, 5), 0),) * 5), "branches")
        self.wrong_point(("draw", ((None, None),) * 5), "branches")

    def test_two_branches_may_have_the_same_point(self):
        self.right_point(("draw", (((1, 2), 2), ((1, 2), 2))))

    def test_chances_are_rationals(self):
        for value in ODD_VALUES + (1, (2, 4), (3, 3), (1, 0), (1, -1), [1, 2], (True, 1), (1, True), (1, 2, 3), "12"):
            self.wrong_point(("draw", ((value, 0),)), "chance")
            self.wrong_point(("draw", (((1, 2), 0), (value, 0))), "chance")

    def test_chances_are_greater_than_0(self):
        for value in ((0, 1), (-1, 1), (-1, 2)):
            self.wrong_point(("draw", ((value, 0), ((1, 1), 0))), "chance")
            self.wrong_point(("draw", (((1, 1), 0), (value, 0))), "chance")

    def test_denominators_are_at_most_60(self):
        self.right_point(("draw", (((1, 60), 0), ((59, 60), 1))))
        self.right_point(("draw", (((1, 59), 0), ((58, 59), 1))))
        self.wrong_point(("draw", (((1, 61), 0), ((60, 61), 1))), "chance")
        self.wrong_point(("draw", (((1, 2), 0), ((1, 62), 0), ((15, 31), 1))), "chance")

    def test_points_are_indexes(self):
        for value in ODD_VALUES + (3, 4, -1, 10 ** 20, (0,), "0"):
            self.wrong_point(("draw", (((1, 1), value),)), "point")
            self.wrong_point(("draw", (((1, 2), 0), ((1, 2), value))), "point")
        for value in (0, 1, 2):
            self.right_point(("draw", (((1, 1), value),)))

    def test_the_total_is_1(self):
        for branches in ((((1, 2), 0),), (((1, 2), 0), ((1, 3), 1)), (((2, 1), 0),), (((3, 2), 0),),
                         (((1, 1), 0), ((1, 60), 0)), (((1, 2), 0), ((1, 2), 1), ((1, 2), 2)), (((59, 60), 0),),
                         (((30, 59), 0), ((28, 59), 1), ((1, 60), 2))):
            self.wrong_point(("draw", branches), "sum")
        for branches in ((((1, 2), 0), ((1, 3), 1), ((1, 6), 2)), (((1, 60), 0), ((1, 60), 0), ((29, 30), 0))):
            self.right_point(("draw", branches))

    def test_the_order(self):
        bad, good = ((1, 61), 0), ((1, 2), 0)
        self.wrong_point(("draw", (((1, 61), 9),)), "chance")
        self.wrong_point(("draw", (((1, 2), 9), bad)), "point")
        self.wrong_point(("draw", (bad, ((1, 2), 9))), "chance")
        self.wrong_point(("draw", (good, ((1, 3), 9))), "point")
        self.wrong_point(("draw", (good, good, good, bad)), "chance")
        self.wrong_point(("draw", (bad,) * 5), "branches")


class ChooseTest(ProblemsTest):
    def test_there_are_1_to_4_points(self):
        self.wrong_point(("choose", ()), "branches")
        for many in range(1, 5):
            self.right_point(("choose", (2,) * many))
        self.wrong_point(("choose", (0,) * 5), "branches")
        self.wrong_point(("choose", (None,) * 5), "branches")

    def test_points_are_indexes(self):
        for value in ODD_VALUES + (3, 4, -1, (0,)):
            self.wrong_point(("choose", (value,)), "point")
            self.wrong_point(("choose", (0, 1, 2, value)), "point")


class CallTest(ProblemsTest):
    def test_there_is_such_a_procedure(self):
        for called, targets in ((0, (0,)), (1, (0, 1)), (2, ())):
            self.right_point(("call", called, targets))
        for called in (3, 4, -1, 10 ** 20):
            self.wrong_point(("call", called, (0,)), "procedure")

    def test_there_is_one_point_for_each_exit(self):
        for called, exits in ((0, 1), (1, 2), (2, 0)):
            for many in range(5):
                if many != exits:
                    self.wrong_point(("call", called, (0,) * many), "branches")

    def test_three_exits(self):
        self.right(((3, (("call", 0, (0, 0, 0)),)),))
        self.wrong(((3, (("call", 0, (0, 0)),)),), (0, 0), "branches")

    def test_points_are_indexes_of_the_calling_procedure(self):
        for value in ODD_VALUES + (3, 4, -1, (0,)):
            self.wrong_point(("call", 0, (value,)), "point")
            self.wrong_point(("call", 1, (0, value)), "point")
            self.wrong_point(("call", 1, (value, 0)), "point")
        self.wrong(((1, (("call", 1, (1,)),)), (1, (EXIT, STOP))), (0, 0), "point")
        self.right(((1, (("call", 1, (1,)), STOP)), (1, (EXIT,))))

    def test_the_order(self):
        self.wrong_point(("call", 3, (9, 9, 9, 9)), "procedure")
        self.wrong_point(("call", 1, (9,)), "branches")


class RewardTest(ProblemsTest):
    def test_amounts_are_rationals(self):
        for value in ODD_VALUES + (1, (2, 4), (0, 2), (1, 0), (1, -1), [1, 2], (True, 1), (1, True), (1, 2, 3)):
            self.wrong_point(("reward", value, 0), "amount")

    def test_amounts_are_from_0(self):
        self.right_point(("reward", (0, 1), 0))
        self.wrong_point(("reward", (-1, 1), 0), "amount")
        self.wrong_point(("reward", (-1, 12), 0), "amount")

    def test_numerators_are_at_most_1000(self):
        self.right_point(("reward", (1000, 1), 0))
        self.right_point(("reward", (1000, 11), 0))
        self.wrong_point(("reward", (1001, 1), 0), "amount")
        self.wrong_point(("reward", (1001, 12), 0), "amount")

    def test_denominators_are_at_most_12(self):
        self.right_point(("reward", (1, 12), 0))
        self.right_point(("reward", (995, 12), 0))
        self.wrong_point(("reward", (1, 13), 0), "amount")
        self.wrong_point(("reward", (14, 13), 0), "amount")

    def test_the_point_is_an_index(self):
        for value in ODD_VALUES + (3, 4, -1, (0,)):
            self.wrong_point(("reward", (1, 2), value), "point")
        for value in (0, 1, 2):
            self.right_point(("reward", (1, 2), value))

    def test_the_order(self):
        self.wrong_point(("reward", (-1, 1), 9), "amount")


if __name__ == "__main__":
    unittest.main()
