"""Points 73 to 76 for any weighted system."""

import random
import unittest
from fractions import Fraction

from oddscall.totals import is_total_answer, total_answer
from tests.weighted import ONE, ZERO, Reading, element, random_system


def half(many=1):
    """Return the element of so many halves."""
    return element(Fraction(many, 2))


class AnswerTest(unittest.TestCase):
    def check(self, own, names, totals, evidence, field=0):
        self.assertEqual(total_answer(field, own, names), (totals, evidence))
        self.assertIs(is_total_answer(field, own, names, totals, evidence), True)
        self.assertIs(Reading(field, own, names).is_right(totals, evidence), True)

    def test_no_loop(self):
        self.check({0: ONE, 1: half(), 2: ZERO}, {0: {1: half(3), 2: ONE}, 1: {2: ONE}, 2: {}},
                   {0: element(Fraction(7, 4)), 1: half(), 2: ZERO}, ())

    def test_bounded(self):
        self.check({0: ONE}, {0: {0: half()}}, {0: element(2)}, (("bounded", (element(2),)),))
        self.check({0: ZERO, 1: ONE}, {0: {0: half(), 1: half()}, 1: {}}, {0: ONE, 1: ONE}, (("bounded", (element(2),)),))
        self.check({0: half(), 1: ZERO}, {0: {1: ONE}, 1: {0: half()}}, {0: ONE, 1: half()},
                   (("bounded", (element(4), element(3))),))

    def test_level(self):
        self.check({0: ONE}, {0: {0: ONE}}, {0: None}, (("level", (ONE,)),))
        self.check({0: half(), 1: ZERO}, {0: {1: element(2)}, 1: {0: half()}}, {0: None, 1: None}, (("level", (element(2), ONE)),))

    def test_heavy(self):
        self.check({0: ONE}, {0: {0: element(3)}}, {0: None}, (("heavy", (half(-1),)),))
        # One of the numbers is greater than 0 here, and the other one is not.
        names = {0: {1: half()}, 1: {0: element(2), 1: element(2)}}
        self.check({0: ONE, 1: ZERO}, names, {0: None, 1: None}, (("heavy", (element(Fraction(1, 4)), half(-3))),))

    def test_infinite_totals_spread(self):
        # The block of 1 uses the infinite 2, so there is no evidence for it; what is used by both stays finite.
        names = {0: {1: half()}, 1: {1: half(), 2: half()}, 2: {2: ONE, 3: ONE}, 3: {3: half()}}
        own = {0: ZERO, 1: ZERO, 2: ZERO, 3: ONE}
        self.check(own, names, {0: None, 1: None, 2: None, 3: element(2)}, (("bounded", (element(2),)), ("level", (ONE,))))

    def test_what_does_not_count(self):
        # The loops of 0 and 1 count nothing, whatever their weights.
        names = {0: {0: element(3)}, 1: {1: ONE, 0: ONE}, 2: {2: half(), 0: ONE}}
        self.check({0: ZERO, 1: ZERO, 2: ONE}, names, {0: ZERO, 1: ZERO, 2: element(2)}, (("bounded", (element(2),)),))

    def test_weights_with_a_root(self):
        # 1 / (1 - sqrt(2) / 2) is 2 + sqrt(2).
        root = ((0, 1), (1, 2))
        self.check({0: ONE}, {0: {0: root}}, {0: ((2, 1), (1, 1))}, (("bounded", (((2, 1), (1, 1)),)),), 2)
        self.check({0: ONE}, {0: {0: ((0, 1), (1, 1))}}, {0: None}, (("heavy", (((-1, 1), (-1, 1)),)),), 2)

    def test_random_systems(self):
        kinds = {}
        for seed in range(600):
            field, own, names = random_system(seed)
            totals, evidence = total_answer(field, own, names)
            self.assertIs(is_total_answer(field, own, names, totals, evidence), True)
            self.assertIs(Reading(field, own, names).is_right(totals, evidence), True)
            for word, _ in evidence:
                kinds[word] = kinds.get(word, 0) + 1
            kinds["infinite"] = kinds.get("infinite", 0) + list(totals.values()).count(None)
        self.assertGreater(min([kinds[word] for word in ("bounded", "heavy", "level", "infinite")]), 10)


class JudgeTest(unittest.TestCase):
    def changed(self, dice, totals, evidence):
        """Return another answer that comes of one by a small change."""
        totals = dict(totals)
        evidence = [(word, list(numbers)) for word, numbers in evidence]
        kind = dice.randrange(7)
        if kind == 0 or not evidence:
            totals[dice.randrange(len(totals))] = dice.choice((None, ZERO, ONE, element(2)))
        elif kind == 1:
            evidence.pop(dice.randrange(len(evidence)))
        elif kind == 2:
            evidence.append(dice.choice(evidence))
        elif kind == 3:
            evidence.reverse()
        elif kind == 4:
            at = dice.randrange(len(evidence))
            evidence[at] = (dice.choice(("bounded", "heavy", "level")), evidence[at][1])
        else:
            numbers = dice.choice(evidence)[1]
            at = dice.randrange(len(numbers))
            numbers[at] = dice.choice((ZERO, ONE, element(2), element(-1)))
        return (totals, tuple([(word, tuple(numbers)) for word, numbers in evidence]))

    def test_changed_answers(self):
        judged = {True: 0, False: 0}
        for seed in range(600):
            dice = random.Random(seed)
            field, own, names = random_system(seed)
            reading = Reading(field, own, names)
            answer = total_answer(field, own, names)
            for _ in range(8):
                totals, evidence = self.changed(dice, *answer)
                wanted = reading.is_right(totals, evidence)
                self.assertIs(is_total_answer(field, own, names, totals, evidence), wanted)
                judged[wanted] += 1
        self.assertGreater(min(judged.values()), 100)

    def test_evidence_of_each_kind_made_wrong(self):
        for weight, right, wrong in (
                (half(), ("bounded", (element(2),)), [("heavy", (element(2),)), ("level", (element(2),)), ("bounded", (element(3),)),
                                                       ("bounded", (element(-2),)), ("bounded", (ZERO,)), ("level", (ZERO,))]),
                (element(3), ("heavy", (half(-1),)), [("bounded", (half(-1),)), ("level", (half(-1),)), ("heavy", (half(),)),
                                                       ("bounded", (half(),)), ("level", (ZERO,)), ("heavy", (ZERO,))]),
                (ONE, ("level", (ONE,)), [("bounded", (ONE,)), ("heavy", (ONE,)), ("level", (ZERO,)), ("heavy", (element(-1),))])):
            totals = {0: element(2) if weight == half() else None}
            self.assertIs(is_total_answer(0, {0: ONE}, {0: {0: weight}}, totals, (right,)), True)
            for evidence in wrong:
                for total in (totals[0], None, element(2), ZERO):
                    self.assertIs(is_total_answer(0, {0: ONE}, {0: {0: weight}}, {0: total}, (evidence,)), False, evidence)
        for word in ("", "Heavy", "infinite", None, True, 0, ("heavy",)):
            self.assertIs(is_total_answer(0, {0: ONE}, {0: {0: element(3)}}, {0: None}, ((word, (half(-1),)),)), False)
        # Any multiple of what is level is level, too.
        for number in (element(-1), half(), element(100)):
            self.assertIs(is_total_answer(0, {0: ONE}, {0: {0: ONE}}, {0: None}, (("level", (number,)),)), True)
        # Some of its numbers may be 0 or negative.
        names = {0: {0: element(2), 1: ONE, 2: ONE}, 1: {0: ONE, 1: element(2)}, 2: {0: ONE, 1: ONE}}
        own = {0: ONE, 1: ZERO, 2: ZERO}
        totals = {0: None, 1: None, 2: None}
        self.assertIs(is_total_answer(0, own, names, totals, (("level", (ONE, element(-1), ZERO)),)), True)
        self.assertIs(is_total_answer(0, own, names, totals, (("level", (ZERO, ZERO, ZERO)),)), False)


if __name__ == "__main__":
    unittest.main()
