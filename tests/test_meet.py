import unittest
from itertools import product

from risingrules.flags import join, meet
from tests.helper import (
    EveryCall, RefusedRules, RefusedStates, all_states, always, follows, many_at_rest, never, number_of, numbers,
    rule_of, states_at_rest,
)

# Towers 0 and 1 keep their flags, tower 2 keeps its own up with one of theirs, tower 3 its own with tower 2's.
THREE = [170, 204, 224]
FOUR = [43690, 52428, 57568, 61440]


class OrdinaryInputs(unittest.TestCase):
    def test_one_under_the_other(self):
        for n, x, y, t in [
            (1, 0, 1, [2]),
            (2, 0, 3, [12, 10]),
            (2, 0, 2, [10, 12]),
            (2, 1, 3, [10, 12]),
            (3, 1, 5, THREE),
            (3, 6, 7, THREE),
            (3, 0, 7, [204, 240, 170]),
            (4, 5, 13, FOUR),
            (4, 2, 14, FOUR),
            (4, 0, 15, FOUR),
        ]:
            self.assertEqual(meet(n, x, y, t), [x], (n, x, y, t))
            self.assertEqual(meet(n, y, x, t), [x], (n, y, x, t))

    def test_alike(self):
        for n, x, t in [
            (1, 0, [0]),
            (1, 0, [2]),
            (1, 1, [3]),
            (2, 3, [12, 10]),
            (2, 2, [10, 12]),
            (3, 5, THREE),
            (3, 7, [204, 240, 170]),
            (4, 13, FOUR),
            (4, 15, [65535, 43690, 52428, 61680]),
        ]:
            self.assertEqual(meet(n, x, x, t), [x], (n, x, t))

    def test_neither_under_the_other(self):
        for n, x, y, t, state in [
            (2, 1, 2, [10, 12], 0),
            (3, 1, 6, THREE, 0),
            (3, 3, 5, THREE, 1),
            (3, 6, 3, THREE, 2),
            (3, 3, 5, [255, 204, 240], 1),
            (3, 5, 6, [170, 204, 248], 4),
            (4, 3, 13, FOUR, 1),
            (4, 7, 13, FOUR, 5),
            (4, 14, 7, FOUR, 6),
            (4, 9, 12, [43690, 52428, 63736, 65520], 8),
        ]:
            self.assertEqual(meet(n, x, y, t), [state], (n, x, y, t))
            self.assertEqual(meet(n, y, x, t), [state], (n, y, x, t))

    def test_a_flag_down_that_is_up_in_both(self):
        for n, x, y, t, state in [
            # tower 2 goes down without towers 0 and 1
            (3, 5, 6, THREE, 0),
            (3, 5, 6, [170, 204, 238], 0),
            # tower 3 goes down behind tower 2: two steps
            (4, 13, 14, FOUR, 0),
            (4, 13, 6, FOUR, 0),
            # towers 2 and 3 go down without towers 0 and 1, in one step
            (4, 13, 14, [43690, 52428, 61166, 61166], 0),
            # tower 3 goes down without towers 0 and 1, and tower 2 stays as it is
            (4, 13, 14, [43690, 52428, 61680, 60928], 4),
            (4, 9, 14, [43690, 52428, 61680, 60928], 0),
        ]:
            self.assertEqual(meet(n, x, y, t), [state], (n, x, y, t))
            self.assertEqual(meet(n, y, x, t), [state], (n, y, x, t))
            self.assertNotEqual(x & y, state)


class Corners(unittest.TestCase):
    def test_one_tower(self):
        pairs = [(0, 0), (0, 1), (1, 0), (1, 1)]
        self.assertEqual([meet(1, x, y, [0]) for x, y in pairs], [[0], [-33], [-33], [-33]])
        self.assertEqual([meet(1, x, y, [1]) for x, y in pairs], [[-16], [-16], [-16], [-16]])
        self.assertEqual([meet(1, x, y, [2]) for x, y in pairs], [[0], [0], [0], [1]])
        self.assertEqual([meet(1, x, y, [3]) for x, y in pairs], [[-33], [-33], [-33], [1]])

    def test_rules_that_are_always_or_never_up(self):
        for n in range(1, 5):
            for state in all_states(n):
                t = [always(n) if tower in state else never(n) for tower in range(n)]
                resting = number_of(state)
                for x, y in product(range(2 ** n), repeat=2):
                    answer = [resting] if x == resting and y == resting else [-33]
                    self.assertEqual(meet(n, x, y, t), answer, (n, x, y, t))

    def test_flags_that_never_change(self):
        for n in range(1, 5):
            t = [follows(n, tower) for tower in range(n)]
            for x, y in product(all_states(n), repeat=2):
                self.assertEqual(meet(n, number_of(x), number_of(y), t), [number_of(x & y)], (n, x, y))

    def test_all_flags_up_at_once(self):
        for n in range(1, 5):
            full = 2 ** n - 1
            every = rule_of(n, lambda state: len(state) == n)
            self.assertEqual(meet(n, full, full, [always(n)] * n), [full])
            self.assertEqual(meet(n, 0, full, [always(n)] * n), [-33])
            self.assertEqual(meet(n, 0, full, [every] * n), [0])
            self.assertEqual(meet(n, full, full, [every] * n), [full])
            self.assertEqual(meet(n, 0, 0, [every] * n), [0])

    def test_two_states_at_rest_neither_under_the_other(self):
        for n in range(2, 5):
            # The other flags are up behind towers 0 and 1 alone, so under these two there is but one state at rest.
            t = [follows(n, 0), follows(n, 1)] + [rule_of(n, lambda state: {0, 1} & state)] * (n - 2)
            full = 2 ** n - 1
            self.assertEqual(sorted(numbers(states_at_rest(n, t))), [0, full - 2, full - 1, full])
            self.assertEqual(meet(n, full - 2, full - 1, t), [0])
            self.assertEqual(meet(n, full - 1, full - 2, t), [0])

    def test_a_rule_that_falls_in_one_state_alone(self):
        for n in range(1, 5):
            full = 2 ** n - 1
            for tower, state in product(range(n), all_states(n)):
                t = [always(n)] * n
                t[tower] = always(n) - 2 ** number_of(state)
                answer = [-16] if state else [full]
                self.assertEqual(meet(n, full, full, t), answer, (n, t))


class WhatHolds(unittest.TestCase):
    def test_at_rest_under_both_and_above_all_such(self):
        for n in range(1, 5):
            for t in many_at_rest(n):
                resting = states_at_rest(n, t)
                for x, y in product(resting, repeat=2):
                    under = [state for state in resting if state <= x and state <= y]
                    above_all = [state for state in under if all(other <= state for other in under)]
                    self.assertEqual(len(above_all), 1, (n, x, y, t))
                    answered = meet(n, number_of(x), number_of(y), t)
                    self.assertEqual(answered, [number_of(above_all[0])], (n, x, y, t))

    def test_with_the_join_it_gives_back_the_state(self):
        for n in range(1, 5):
            for t in many_at_rest(n)[::7]:
                for x, y in product(numbers(states_at_rest(n, t)), repeat=2):
                    self.assertEqual(meet(n, x, join(n, x, y, t)[0], t), [x], (n, x, y, t))
                    self.assertEqual(join(n, x, meet(n, x, y, t)[0], t), [x], (n, x, y, t))


class WrongInputs(RefusedRules, RefusedStates, unittest.TestCase):
    def call_with_rules(self, n, t):
        return meet(n, 0, 0, t)

    def call(self, *arguments):
        return meet(*arguments)


class Calls(EveryCall, unittest.TestCase):
    answers = [
        ((1, 0, 1, [2]), [0]),
        ((3, 5, 6, THREE), [0]),
        ((4, 7, 13, FOUR), [5]),
        ((3, 4, 7, THREE), [-33]),
        ((3, 0, 0, [255, 170, 51]), [-16]),
        ((5, 0, 0, [0]), [-22]),
        ((2, 4, 0, [10, 12]), [-22]),
    ]

    def call(self, *arguments):
        return meet(*arguments)


if __name__ == "__main__":
    unittest.main()
