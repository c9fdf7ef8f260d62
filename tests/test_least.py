import unittest
from itertools import product

from risingrules.flags import least
from tests.helper import (
    EveryCall, RefusedRules, all_states, always, follows, never, number_of, rule_of, some_rising, states_at_rest,
    steps_between,
)


class OrdinaryInputs(unittest.TestCase):
    def test_no_flag_up(self):
        for n, t in [
            (1, [2]),
            (2, [12, 10]),
            (3, [204, 240, 170]),
            (3, [232, 254, 128]),
            (4, [34952, 65534, 32768, 61166]),
        ]:
            self.assertEqual(least(n, t), [0, 0], (n, t))

    def test_behind_one_step(self):
        for n, t, state in [
            (1, [3], 1),
            (2, [15, 8], 1),
            (2, [8, 15], 2),
            (3, [255, 192, 240], 1),
            (3, [128, 255, 255], 6),
            (4, [43690, 65535, 32768, 65535], 10),
        ]:
            self.assertEqual(least(n, t), [state, 1], (n, t))

    def test_behind_several_steps(self):
        for n, t, answer in [
            (3, [255, 170, 128], [3, 2]),
            (4, [65535, 43690, 34952, 0], [7, 3]),
            (4, [65535, 43690, 43690, 65535], [15, 2]),
            (4, [61680, 43690, 65535, 0], [7, 3]),
            (4, [0, 61680, 65535, 34952], [6, 2]),
        ]:
            self.assertEqual(least(n, t), answer, (n, t))

    def test_behind_as_many_steps_as_towers(self):
        for n, t, state in [
            (1, [3], 1),
            (2, [15, 10], 3),
            (2, [12, 15], 3),
            (3, [255, 170, 204], 7),
            (3, [204, 240, 255], 7),
            (4, [65535, 43690, 52428, 61680], 15),
            (4, [65535, 43690, 34952, 32896], 15),
        ]:
            self.assertEqual(least(n, t), [state, n], (n, t))


class Corners(unittest.TestCase):
    def test_one_tower(self):
        self.assertEqual([least(1, [rule]) for rule in range(4)], [[0, 0], [-16], [0, 0], [1, 1]])

    def test_rules_that_never_change(self):
        for n in range(1, 5):
            for state in all_states(n):
                t = [always(n) if tower in state else never(n) for tower in range(n)]
                self.assertEqual(least(n, t), [number_of(state), 1 if state else 0], (n, t))
            self.assertEqual(least(n, [follows(n, tower) for tower in range(n)]), [0, 0])

    def test_all_flags_up_at_once(self):
        for n in range(1, 5):
            every = rule_of(n, lambda state: len(state) == n)
            self.assertEqual(least(n, [always(n)] * n), [2 ** n - 1, 1])
            self.assertEqual(least(n, [every] * n), [0, 0])

    def test_two_states_at_rest_neither_under_the_other(self):
        for n, t, two, answer in [
            (2, [10, 12], [1, 2], [0, 0]),
            (3, [255, 204, 240], [3, 5], [1, 1]),
            (4, [65535, 43690, 61680, 65280], [7, 11], [3, 2]),
        ]:
            resting = [number_of(state) for state in states_at_rest(n, t)]
            self.assertTrue(set(two) <= set(resting), (n, t))
            self.assertNotIn(two[0] & two[1], two, (n, t))
            self.assertEqual(least(n, t), answer, (n, t))

    def test_a_rule_that_falls_in_one_state_alone(self):
        for n in range(1, 5):
            for tower, state in product(range(n), all_states(n)):
                t = [always(n)] * n
                t[tower] = always(n) - 2 ** number_of(state)
                if state:
                    self.assertEqual(least(n, t), [-16], (n, t))
                elif n > 1:
                    self.assertEqual(least(n, t), [2 ** n - 1, 2], (n, t))


class WhatHolds(unittest.TestCase):
    def test_at_rest_under_all_at_rest_and_in_how_few_steps(self):
        for n in range(1, 5):
            for t in some_rising(n):
                resting = states_at_rest(n, t)
                under_all = [state for state in resting if all(state <= other for other in resting)]
                self.assertEqual(len(under_all), 1, (n, t))
                steps = steps_between(t, frozenset(), under_all[0], 2 ** n)
                self.assertLessEqual(steps, n, (n, t))
                self.assertEqual(least(n, t), [number_of(under_all[0]), steps], (n, t))


class WrongInputs(RefusedRules, unittest.TestCase):
    def call_with_rules(self, n, t):
        return least(n, t)


class Calls(EveryCall, unittest.TestCase):
    answers = [
        ((1, [2]), [0, 0]),
        ((2, [15, 10]), [3, 2]),
        ((3, [255, 170, 51]), [-16]),
        ((4, [65535, 43690, 52428, 61680]), [15, 4]),
        ((5, [0]), [-22]),
        ((2, [16, 0]), [-22]),
    ]

    def call(self, *arguments):
        return least(*arguments)


if __name__ == "__main__":
    unittest.main()
