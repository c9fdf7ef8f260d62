import unittest
from itertools import product

from risingrules.flags import rises
from tests.helper import (
    FALLING, WRONG_INPUTS, EveryCall, all_states, always, follows, never, number_of, puts_one_down,
    rising_rules, rule_of,
)


class OrdinaryInputs(unittest.TestCase):
    def test_rules_that_rise(self):
        for n, t in [
            (1, [2]),
            (2, [12, 10]),
            (2, [14, 8]),
            (3, [255, 170, 204]),
            (3, [232, 254, 128]),
            (4, [65535, 43690, 52428, 61680]),
            (4, [34952, 65534, 32768, 61166]),
        ]:
            self.assertEqual(rises(n, t), [1], (n, t))

    def test_rules_that_do_not_rise(self):
        for n, t in [
            (1, [1]),
            (2, [12, 5]),
            (2, [6, 10]),
            (3, [150, 170, 204]),
            (3, [255, 170, 51]),
            (4, [65535, 43690, 52428, 3855]),
            (4, [27030, 0, 0, 0]),
        ]:
            self.assertEqual(rises(n, t), [0], (n, t))

    def test_a_falling_rule_at_whatever_tower(self):
        for n in range(1, 5):
            for tower in range(n):
                t = [follows(n, 0)] * n
                t[tower] = FALLING[n]
                self.assertEqual(rises(n, t), [0], (n, t))


class Corners(unittest.TestCase):
    def test_one_tower(self):
        self.assertEqual([rises(1, [rule]) for rule in range(4)], [[1], [0], [1], [1]])

    def test_rules_that_never_change(self):
        for n in range(1, 5):
            for rules in product([never(n), always(n)], repeat=n):
                self.assertEqual(rises(n, list(rules)), [1])
            self.assertEqual(rises(n, [follows(n, tower) for tower in range(n)]), [1])

    def test_all_flags_up_at_once(self):
        for n in range(1, 5):
            every = rule_of(n, lambda state: len(state) == n)
            but_every = rule_of(n, lambda state: len(state) < n)
            self.assertEqual(rises(n, [always(n)] * n), [1])
            self.assertEqual(rises(n, [every] * n), [1])
            self.assertEqual(rises(n, [but_every] * n), [0])

    def test_a_rule_that_falls_in_one_state_alone(self):
        for n in range(1, 5):
            for tower, state in product(range(n), all_states(n)):
                t = [always(n)] * n
                t[tower] = always(n) - 2 ** number_of(state)
                self.assertEqual(rises(n, t), [1 if len(state) == 0 else 0], (n, t))

    def test_a_rule_that_is_up_in_one_state_alone(self):
        for n in range(1, 5):
            for tower, state in product(range(n), all_states(n)):
                t = [never(n)] * n
                t[tower] = 2 ** number_of(state)
                self.assertEqual(rises(n, t), [1 if len(state) == n else 0], (n, t))


class WhatHolds(unittest.TestCase):
    def test_just_if_no_flag_that_comes_up_puts_one_down(self):
        for n in (1, 2):
            for rules in product(range(2 ** 2 ** n), repeat=n):
                t = list(rules)
                self.assertEqual(rises(n, t), [0 if puts_one_down(n, t) else 1], (n, t))

    def test_every_rule_at_every_one_of_three_towers(self):
        rising = rising_rules(3)
        for tower, rule in product(range(3), range(256)):
            t = [follows(3, 0)] * 3
            t[tower] = rule
            self.assertEqual(rises(3, t), [1 if rule in rising else 0], t)

    def test_every_rule_of_four_towers(self):
        found = [rule for rule in range(65536) if rises(4, [65535, 0, rule, 52428]) == [1]]
        # The count first: to show how two very long lists differ takes unittest very long.
        self.assertEqual(len(found), 168)
        self.assertEqual(found, sorted(rising_rules(4)))


class WrongInputs(unittest.TestCase):
    def test_refused(self):
        for n, t in WRONG_INPUTS:
            self.assertEqual(rises(n, t), [-22], (n, t))

    def test_refused_also_where_the_rules_fall(self):
        for n, t in [(5, [1] * 5), (2, [7]), (2, [7, 7, 7]), (2, [7, 16]), (2, [16, 7]), (1, [5])]:
            self.assertEqual(rises(n, t), [-22], (n, t))

    def test_the_largest_rules_are_taken(self):
        for n, largest in [(1, 3), (2, 15), (3, 255), (4, 65535)]:
            self.assertEqual(rises(n, [largest] * n), [1])


class Calls(EveryCall, unittest.TestCase):
    answers = [
        ((2, [12, 10]), [1]),
        ((3, [255, 170, 51]), [0]),
        ((4, [65535, 43690, 52428, 61680]), [1]),
        ((5, [0]), [-22]),
        ((2, [16, 0]), [-22]),
    ]

    def call(self, *arguments):
        return rises(*arguments)


if __name__ == "__main__":
    unittest.main()
