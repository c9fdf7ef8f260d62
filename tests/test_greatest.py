import unittest
from itertools import product

from risingrules.flags import greatest
from tests.helper import (
    EveryCall, RefusedRules, all_states, always, follows, never, number_of, rule_of, some_rising, states_at_rest,
    steps_between,
)


class OrdinaryInputs(unittest.TestCase):
    def test_all_flags_up(self):
        for n, t in [
            (1, [2]),
            (1, [3]),
            (2, [12, 10]),
            (2, [15, 8]),
            (3, [204, 240, 170]),
            (3, [232, 254, 128]),
            (4, [34952, 65534, 32768, 61166]),
            (4, [65535, 43690, 52428, 61680]),
        ]:
            self.assertEqual(greatest(n, t), [2 ** n - 1, 0], (n, t))

    def test_behind_one_step(self):
        for n, t, state in [
            (1, [0], 0),
            (2, [10, 0], 1),
            (2, [0, 12], 2),
            (3, [0, 252, 204], 6),
            (3, [254, 0, 0], 1),
            (3, [0, 0, 0], 0),
            (4, [43690, 0, 65535, 0], 5),
            (4, [0, 0, 65280, 61680], 12),
        ]:
            self.assertEqual(greatest(n, t), [state, 1], (n, t))

    def test_behind_several_steps(self):
        for n, t, answer in [
            (3, [0, 170, 254], [4, 2]),
            (3, [0, 170, 240], [4, 2]),
            (4, [0, 43690, 61166, 65535], [8, 3]),
            (4, [0, 43690, 43690, 0], [0, 2]),
            (4, [61680, 43690, 0, 65535], [8, 3]),
            (4, [65535, 61680, 0, 65518], [9, 2]),
        ]:
            self.assertEqual(greatest(n, t), answer, (n, t))

    def test_behind_as_many_steps_as_towers(self):
        for n, t in [
            (1, [0]),
            (2, [0, 10]),
            (2, [12, 0]),
            (3, [0, 170, 204]),
            (3, [204, 240, 0]),
            (4, [0, 43690, 52428, 61680]),
            (4, [0, 43690, 61166, 65278]),
        ]:
            self.assertEqual(greatest(n, t), [0, n], (n, t))


class Corners(unittest.TestCase):
    def test_one_tower(self):
        self.assertEqual([greatest(1, [rule]) for rule in range(4)], [[0, 1], [-16], [1, 0], [1, 0]])

    def test_rules_that_never_change(self):
        for n in range(1, 5):
            for state in all_states(n):
                t = [always(n) if tower in state else never(n) for tower in range(n)]
                steps = 0 if len(state) == n else 1
                self.assertEqual(greatest(n, t), [number_of(state), steps], (n, t))
            self.assertEqual(greatest(n, [follows(n, tower) for tower in range(n)]), [2 ** n - 1, 0])

    def test_all_flags_up_at_once(self):
        for n in range(1, 5):
            every = rule_of(n, lambda state: len(state) == n)
            self.assertEqual(greatest(n, [always(n)] * n), [2 ** n - 1, 0])
            self.assertEqual(greatest(n, [every] * n), [2 ** n - 1, 0])
            self.assertEqual(greatest(n, [never(n)] * n), [0, 1])

    def test_two_states_at_rest_neither_under_the_other(self):
        for n, t, two, answer in [
            (2, [10, 12], [1, 2], [3, 0]),
            (3, [170, 204, 136], [1, 2], [7, 0]),
            (3, [0, 204, 240], [2, 4], [6, 1]),
            (4, [0, 43690, 61680, 65280], [4, 8], [12, 2]),
        ]:
            resting = [number_of(state) for state in states_at_rest(n, t)]
            self.assertTrue(set(two) <= set(resting), (n, t))
            self.assertNotIn(two[0] & two[1], two, (n, t))
            self.assertEqual(greatest(n, t), answer, (n, t))

    def test_a_rule_that_falls_in_one_state_alone(self):
        for n in range(1, 5):
            for tower, state in product(range(n), all_states(n)):
                t = [always(n)] * n
                t[tower] = always(n) - 2 ** number_of(state)
                answer = [-16] if state else [2 ** n - 1, 0]
                self.assertEqual(greatest(n, t), answer, (n, t))

    def test_a_rule_that_is_up_in_one_state_alone(self):
        for n in range(2, 5):
            for tower, state in product(range(n), all_states(n)):
                t = [never(n)] * n
                t[tower] = 2 ** number_of(state)
                answer = [0, 2] if len(state) == n else [-16]
                self.assertEqual(greatest(n, t), answer, (n, t))


class WhatHolds(unittest.TestCase):
    def test_at_rest_above_all_at_rest_and_in_how_few_steps(self):
        for n in range(1, 5):
            for t in some_rising(n):
                resting = states_at_rest(n, t)
                above_all = [state for state in resting if all(other <= state for other in resting)]
                self.assertEqual(len(above_all), 1, (n, t))
                steps = steps_between(t, frozenset(range(n)), above_all[0], 2 ** n)
                self.assertLessEqual(steps, n, (n, t))
                self.assertEqual(greatest(n, t), [number_of(above_all[0]), steps], (n, t))


class WrongInputs(RefusedRules, unittest.TestCase):
    def call_with_rules(self, n, t):
        return greatest(n, t)


class Calls(EveryCall, unittest.TestCase):
    answers = [
        ((1, [2]), [1, 0]),
        ((2, [0, 10]), [0, 2]),
        ((3, [255, 170, 51]), [-16]),
        ((4, [0, 43690, 52428, 61680]), [0, 4]),
        ((5, [0]), [-22]),
        ((2, [16, 0]), [-22]),
    ]

    def call(self, *arguments):
        return greatest(*arguments)


if __name__ == "__main__":
    unittest.main()
