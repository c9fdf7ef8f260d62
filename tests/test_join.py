import unittest
from itertools import product

from risingrules.flags import join
from tests.helper import (
    EveryCall, RefusedRules, RefusedStates, all_states, always, follows, many_at_rest, never, number_of, numbers,
    rule_of, states_at_rest,
)


class OrdinaryInputs(unittest.TestCase):
    def test_one_under_the_other(self):
        for n, x, y, t in [
            (1, 0, 1, [2]),
            (2, 0, 3, [12, 10]),
            (2, 0, 2, [10, 12]),
            (2, 1, 3, [10, 12]),
            (3, 1, 5, [170, 204, 248]),
            (3, 2, 7, [170, 204, 248]),
            (3, 0, 7, [204, 240, 170]),
            (4, 8, 12, [43690, 52428, 63736, 65520]),
            (4, 2, 14, [43690, 52428, 63736, 65520]),
            (4, 0, 15, [43690, 52428, 63736, 65520]),
        ]:
            self.assertEqual(join(n, x, y, t), [y], (n, x, y, t))
            self.assertEqual(join(n, y, x, t), [y], (n, y, x, t))

    def test_alike(self):
        for n, x, t in [
            (1, 0, [0]),
            (1, 1, [3]),
            (2, 3, [12, 10]),
            (2, 2, [10, 12]),
            (3, 5, [170, 204, 248]),
            (3, 0, [204, 240, 170]),
            (4, 12, [43690, 52428, 63736, 65520]),
            (4, 15, [65535, 43690, 52428, 61680]),
        ]:
            self.assertEqual(join(n, x, x, t), [x], (n, x, t))

    def test_neither_under_the_other(self):
        for n, x, y, t, state in [
            (2, 1, 2, [10, 12], 3),
            (3, 1, 4, [170, 204, 248], 5),
            (3, 5, 6, [170, 204, 248], 7),
            (3, 3, 5, [255, 204, 240], 7),
            (4, 1, 8, [43690, 52428, 63736, 65520], 9),
            (4, 2, 12, [43690, 52428, 63736, 65520], 14),
            (4, 9, 12, [43690, 52428, 63736, 65520], 13),
        ]:
            self.assertEqual(join(n, x, y, t), [state], (n, x, y, t))
            self.assertEqual(join(n, y, x, t), [state], (n, y, x, t))

    def test_a_flag_up_that_is_up_in_neither(self):
        for n, x, y, t, state in [
            # tower 2 goes up behind towers 0 and 1, and by the first rules stays up
            (3, 1, 2, [170, 204, 248], 7),
            (3, 1, 2, [170, 204, 136], 7),
            # tower 3 goes up behind tower 2: two steps
            (4, 1, 2, [43690, 52428, 63736, 65520], 15),
            (4, 9, 2, [43690, 52428, 63736, 65520], 15),
            # towers 2 and 3 go up behind towers 0 and 1, in one step
            (4, 1, 2, [43690, 52428, 34952, 34952], 15),
            # tower 3 goes up behind towers 0 and 1, and tower 2 stays as it is
            (4, 1, 2, [43690, 52428, 61680, 65416], 11),
            (4, 5, 2, [43690, 52428, 61680, 65416], 15),
        ]:
            self.assertEqual(join(n, x, y, t), [state], (n, x, y, t))
            self.assertEqual(join(n, y, x, t), [state], (n, y, x, t))
            self.assertNotEqual(x | y, state)


class Corners(unittest.TestCase):
    def test_one_tower(self):
        pairs = [(0, 0), (0, 1), (1, 0), (1, 1)]
        self.assertEqual([join(1, x, y, [0]) for x, y in pairs], [[0], [-33], [-33], [-33]])
        self.assertEqual([join(1, x, y, [1]) for x, y in pairs], [[-16], [-16], [-16], [-16]])
        self.assertEqual([join(1, x, y, [2]) for x, y in pairs], [[0], [1], [1], [1]])
        self.assertEqual([join(1, x, y, [3]) for x, y in pairs], [[-33], [-33], [-33], [1]])

    def test_rules_that_are_always_or_never_up(self):
        for n in range(1, 5):
            for state in all_states(n):
                t = [always(n) if tower in state else never(n) for tower in range(n)]
                resting = number_of(state)
                for x, y in product(range(2 ** n), repeat=2):
                    answer = [resting] if x == resting and y == resting else [-33]
                    self.assertEqual(join(n, x, y, t), answer, (n, x, y, t))

    def test_flags_that_never_change(self):
        for n in range(1, 5):
            t = [follows(n, tower) for tower in range(n)]
            for x, y in product(all_states(n), repeat=2):
                self.assertEqual(join(n, number_of(x), number_of(y), t), [number_of(x | y)], (n, x, y))

    def test_all_flags_up_at_once(self):
        for n in range(1, 5):
            full = 2 ** n - 1
            every = rule_of(n, lambda state: len(state) == n)
            self.assertEqual(join(n, full, full, [always(n)] * n), [full])
            self.assertEqual(join(n, 0, full, [always(n)] * n), [-33])
            self.assertEqual(join(n, 0, full, [every] * n), [full])
            self.assertEqual(join(n, full, full, [every] * n), [full])
            self.assertEqual(join(n, 0, 0, [every] * n), [0])

    def test_two_states_at_rest_neither_under_the_other(self):
        for n in range(2, 5):
            # The other flags go up behind towers 0 and 1 alone, so over these two there is but one state at rest.
            t = [follows(n, 0), follows(n, 1)] + [rule_of(n, lambda state: {0, 1} <= state)] * (n - 2)
            self.assertEqual(sorted(numbers(states_at_rest(n, t))), [0, 1, 2, 2 ** n - 1])
            self.assertEqual(join(n, 1, 2, t), [2 ** n - 1])
            self.assertEqual(join(n, 2, 1, t), [2 ** n - 1])

    def test_a_rule_that_falls_in_one_state_alone(self):
        for n in range(1, 5):
            full = 2 ** n - 1
            for tower, state in product(range(n), all_states(n)):
                t = [always(n)] * n
                t[tower] = always(n) - 2 ** number_of(state)
                answer = [-16] if state else [full]
                self.assertEqual(join(n, full, full, t), answer, (n, t))


class WhatHolds(unittest.TestCase):
    def test_at_rest_above_both_and_under_all_such(self):
        for n in range(1, 5):
            for t in many_at_rest(n):
                resting = states_at_rest(n, t)
                for x, y in product(resting, repeat=2):
                    above = [state for state in resting if x <= state and y <= state]
                    under_all = [state for state in above if all(state <= other for other in above)]
                    self.assertEqual(len(under_all), 1, (n, x, y, t))
                    answered = join(n, number_of(x), number_of(y), t)
                    self.assertEqual(answered, [number_of(under_all[0])], (n, x, y, t))


class WrongInputs(RefusedRules, RefusedStates, unittest.TestCase):
    def call_with_rules(self, n, t):
        return join(n, 0, 0, t)

    def call(self, *arguments):
        return join(*arguments)


class Calls(EveryCall, unittest.TestCase):
    answers = [
        ((1, 0, 1, [2]), [1]),
        ((3, 1, 2, [170, 204, 248]), [7]),
        ((4, 1, 2, [43690, 52428, 63736, 65520]), [15]),
        ((3, 3, 7, [170, 204, 248]), [-33]),
        ((3, 0, 0, [255, 170, 51]), [-16]),
        ((5, 0, 0, [0]), [-22]),
        ((2, 4, 0, [10, 12]), [-22]),
    ]

    def call(self, *arguments):
        return join(*arguments)


if __name__ == "__main__":
    unittest.main()
