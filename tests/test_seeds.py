import unittest
from itertools import product

from risingrules.flags import least, seeds
from tests.helper import (
    EveryCall, RefusedRules, all_states, always, brings_all_up, follows, many_at_rest, never, number_of, numbers,
    rule_of, states_at_rest,
)


def at_least(n, how_many):
    """The rule that says up if so many flags are up."""
    return rule_of(n, lambda state: len(state) >= how_many)


class OrdinaryInputs(unittest.TestCase):
    def test_of_none(self):
        for n, t in [
            (1, [3]),
            (2, [15, 15]),
            (2, [15, 10]),
            (2, [12, 15]),
            (3, [255, 170, 204]),
            (3, [204, 240, 255]),
            (4, [65535, 43690, 52428, 61680]),
            (4, [65535, 65535, 34952, 32896]),
        ]:
            self.assertEqual(seeds(n, t), [0, 0], (n, t))

    def test_of_one_tower(self):
        for n, t, state in [
            (1, [0], 1),
            (1, [2], 1),
            (2, [0, 10], 1),
            (2, [12, 0], 2),
            (2, [0, 15], 1),
            (2, [15, 0], 2),
            (3, [0, 170, 204], 1),
            (3, [204, 0, 204], 2),
            (3, [204, 240, 0], 4),
            (3, [255, 255, 0], 4),
            (4, [0, 43690, 52428, 61680], 1),
            (4, [52428, 0, 52428, 61680], 2),
            (4, [61680, 61680, 61680, 61680], 4),
            (4, [52428, 61680, 65280, 0], 8),
        ]:
            self.assertEqual(seeds(n, t), [1, state], (n, t))

    def test_of_some_but_not_all(self):
        for n, t, answer in [
            # tower 2 goes up behind 0 and 1, tower 1 behind 0 and 2, tower 0 behind 1 and 2; the others keep theirs
            (3, [170, 204, 136], [2, 3]),
            (3, [170, 160, 240], [2, 5]),
            (3, [192, 204, 240], [2, 6]),
            (4, [0, 0, 43690, 52428], [2, 3]),
            (4, [65280, 65280, 0, 0], [2, 12]),
            (4, [0, 0, 0, 43690], [3, 7]),
            (4, [0, 0, 65535, 0], [3, 11]),
            (4, [65535, 0, 0, 0], [3, 14]),
        ]:
            self.assertEqual(seeds(n, t), answer, (n, t))

    def test_of_all_towers(self):
        for n, t in [
            (1, [0]),
            (1, [2]),
            (2, [10, 12]),
            (2, [0, 0]),
            (2, [8, 8]),
            (3, [170, 204, 240]),
            (3, [0, 204, 128]),
            (4, [43690, 52428, 61680, 65280]),
            (4, [43690, 0, 0, 32768]),
        ]:
            self.assertEqual(seeds(n, t), [n, 2 ** n - 1], (n, t))

    def test_several_sets_of_so_few(self):
        for n, t, sets in [
            # each does as another one, all round
            (2, [12, 10], [1, 2]),
            (3, [204, 240, 170], [1, 2, 4]),
            (4, [52428, 61680, 65280, 43690], [1, 2, 4, 8]),
            # tower 0, or 2, is never up of itself; the others do as one another
            (3, [0, 240, 204], [3, 5]),
            (3, [204, 170, 0], [5, 6]),
            # two pairs
            (4, [52428, 43690, 65280, 61680], [5, 6, 9, 10]),
            # two towers, of whichever
            (3, [at_least(3, 2)] * 3, [3, 5, 6]),
            (4, [at_least(4, 2)] * 4, [3, 5, 6, 9, 10, 12]),
            (4, [at_least(4, 3)] * 4, [7, 11, 13, 14]),
            # tower 0 goes up behind 3 alone, and 3 never of itself; tower 2 behind 1, tower 1 behind 2
            (4, [65280, 61680, 52428, 0], [10, 12]),
        ]:
            size = len([tower for tower in range(n) if sets[0] // 2 ** tower % 2])
            found = [state for state in all_states(n) if len(state) == size and brings_all_up(n, t, state)]
            self.assertEqual(sorted(numbers(found)), sets, (n, t))
            self.assertEqual(seeds(n, t), [size, sets[0]], (n, t))

    def test_fewer_towers_go_ahead_of_the_lesser_number(self):
        for n, t, answer, lesser in [
            (3, [240, 240, 136], [1, 4], {0, 1}),
            (4, [65280, 65280, 65280, 32896], [1, 8], {0, 1, 2}),
            # towers 0 and 1 go up behind 2 and 3, tower 3 behind the other three, tower 2 never of itself
            (4, [61440, 61440, 0, 32896], [2, 12], {0, 1, 2}),
        ]:
            self.assertTrue(brings_all_up(n, t, frozenset(lesser)), (n, t))
            self.assertLess(number_of(lesser), answer[1])
            self.assertEqual(seeds(n, t), answer, (n, t))

    def test_held_and_not_only_put_up(self):
        for n in range(1, 5):
            # Each flag but the first goes up behind all lower ones, and the first comes down if it's not held.
            t = [never(n)] + [rule_of(n, lambda state: set(range(tower)) <= state) for tower in range(1, n)]
            self.assertEqual(seeds(n, t), [1, 1], (n, t))


class Corners(unittest.TestCase):
    def test_one_tower(self):
        self.assertEqual([seeds(1, [rule]) for rule in range(4)], [[1, 1], [-16], [1, 1], [0, 0]])

    def test_rules_that_are_always_or_never_up(self):
        for n in range(1, 5):
            for down in all_states(n):
                t = [never(n) if tower in down else always(n) for tower in range(n)]
                self.assertEqual(seeds(n, t), [len(down), number_of(down)], (n, t))

    def test_flags_that_never_change(self):
        for n in range(1, 5):
            self.assertEqual(seeds(n, [follows(n, tower) for tower in range(n)]), [n, 2 ** n - 1])

    def test_all_flags_up_at_once(self):
        for n in range(1, 5):
            full = 2 ** n - 1
            self.assertEqual(seeds(n, [always(n)] * n), [0, 0])
            self.assertEqual(seeds(n, [at_least(n, 1)] * n), [1, 1])
            self.assertEqual(seeds(n, [at_least(n, n)] * n), [n, full])

    def test_two_states_at_rest_neither_under_the_other(self):
        for n in range(2, 5):
            both = rule_of(n, lambda state: {0, 1} <= state)
            one = rule_of(n, lambda state: {0, 1} & state)
            for others in (both, one):
                t = [follows(n, 0), follows(n, 1)] + [others] * (n - 2)
                resting = states_at_rest(n, t)
                self.assertTrue(any(not x <= y and not y <= x for x, y in product(resting, repeat=2)), t)
                self.assertEqual(seeds(n, t), [2, 3], (n, t))

    def test_a_rule_that_falls_in_one_state_alone(self):
        for n in range(1, 5):
            for tower, state in product(range(n), all_states(n)):
                t = [always(n)] * n
                t[tower] = always(n) - 2 ** number_of(state)
                if state:
                    self.assertEqual(seeds(n, t), [-16], (n, t))
                else:
                    self.assertEqual(seeds(n, t), [1, 1] if n == 1 else [0, 0], (n, t))

    def test_a_rule_that_is_up_in_one_state_alone(self):
        for n in range(1, 5):
            full = 2 ** n - 1
            for tower, state in product(range(n), all_states(n)):
                t = [never(n)] * n
                t[tower] = 2 ** number_of(state)
                self.assertEqual(seeds(n, t), [n, full] if len(state) == n else [-16], (n, t))

    def test_none_just_if_the_least_is_all_flags_up(self):
        for n in range(1, 5):
            for t in many_at_rest(n):
                self.assertEqual(seeds(n, t) == [0, 0], least(n, t)[0] == 2 ** n - 1, (n, t))


class WhatHolds(unittest.TestCase):
    def test_brings_all_up_and_no_fewer_and_no_lesser_set_does(self):
        for n in range(1, 5):
            in_order = sorted(all_states(n), key=lambda state: (len(state), number_of(state)))
            sizes = set()
            for t in many_at_rest(n):
                for state in in_order:
                    if brings_all_up(n, t, state):
                        break
                self.assertEqual(seeds(n, t), [len(state), number_of(state)], (n, t))
                sizes.add(len(state))
            self.assertEqual(sizes, set(range(n + 1)))


class WrongInputs(RefusedRules, unittest.TestCase):
    def call_with_rules(self, n, t):
        return seeds(n, t)


class Calls(EveryCall, unittest.TestCase):
    answers = [
        ((1, [3]), [0, 0]),
        ((1, [2]), [1, 1]),
        ((2, [10, 12]), [2, 3]),
        ((3, [204, 170, 0]), [2, 5]),
        ((3, [255, 170, 51]), [-16]),
        ((4, [0, 43690, 52428, 61680]), [1, 1]),
        ((4, [43690, 52428, 61680, 65280]), [4, 15]),
        ((5, [0]), [-22]),
        ((2, [16, 0]), [-22]),
    ]

    def call(self, *arguments):
        return seeds(*arguments)


if __name__ == "__main__":
    unittest.main()
