"""What holds over all the calls: point 2 of the document."""

import unittest
from itertools import product

from risingrules.flags import greatest, join, least, meet, rises, seeds
from tests.helper import (
    all_states, always, comes_of, many_at_rest, number_of, numbers, one_behind_another, puts_one_down,
    rising_or_not, states_at_rest,
)


def is_between(low, state, high):
    return low & state == low and state & high == state


class RulesThatRise(unittest.TestCase):
    def each_list(self, every=1):
        """Each n and list of rules, with the least and the greatest state at rest."""
        for n in range(1, 5):
            for t in many_at_rest(n)[::every]:
                yield n, t, least(n, t)[0], greatest(n, t)[0]

    def test_states_at_rest_lie_between_the_least_and_the_greatest(self):
        for n, t, low, high in self.each_list():
            resting = numbers(states_at_rest(n, t))
            self.assertIn(low, resting, (n, t))
            self.assertIn(high, resting, (n, t))
            for state in resting:
                self.assertTrue(is_between(low, state, high), (n, t, state))

    def test_no_more_steps_than_towers(self):
        for n in range(1, 5):
            steps = set()
            for t in many_at_rest(n):
                steps.add(least(n, t)[1])
                steps.add(greatest(n, t)[1])
            self.assertEqual(steps, set(range(n + 1)))

    def test_one_tower_behind_another(self):
        for n, t, low, high in self.each_list():
            found = one_behind_another(t)
            for state in found:
                self.assertTrue(is_between(0, number_of(state), low), (n, t, state))
                # Whichever tower is next, no flag comes down: so every order that forgets no tower ends at rest.
                self.assertLessEqual(state, comes_of(t, state), (n, t, state))
            resting = [number_of(state) for state in found if comes_of(t, state) == state]
            self.assertEqual(resting, [low], (n, t))

    def test_behind_as_many_steps_as_towers_each_state_lies_between(self):
        for n, t, low, high in self.each_list():
            for start in all_states(n):
                state = start
                for step in range(n):
                    state = comes_of(t, state)
                self.assertTrue(is_between(low, number_of(state), high), (n, t, start))

    def test_join_and_meet_lie_between(self):
        for n, t, low, high in self.each_list(every=7):
            resting = numbers(states_at_rest(n, t))
            for x, y in product(resting, repeat=2):
                joined, met = join(n, x, y, t)[0], meet(n, x, y, t)[0]
                self.assertIn(joined, resting, (n, x, y, t))
                self.assertIn(met, resting, (n, x, y, t))
                self.assertTrue(is_between(low, met, x & y), (n, x, y, t))
                self.assertTrue(is_between(x | y, joined, high), (n, x, y, t))
            for x in resting:
                self.assertEqual(join(n, low, x, t), [x], (n, x, t))
                self.assertEqual(join(n, x, high, t), [high], (n, x, t))
                self.assertEqual(meet(n, low, x, t), [low], (n, x, t))
                self.assertEqual(meet(n, x, high, t), [x], (n, x, t))

    def test_seeds_held_up_leave_all_flags_up_as_the_one_state_at_rest(self):
        for n, t, low, high in self.each_list(every=7):
            size, chosen = seeds(n, t)
            held = [always(n) if chosen // 2 ** tower % 2 else rule for tower, rule in enumerate(t)]
            self.assertEqual(size, len([rule for tower, rule in enumerate(t) if chosen // 2 ** tower % 2]), (n, t))
            self.assertEqual(rises(n, held), [1], (n, t))
            self.assertEqual(least(n, held)[0], 2 ** n - 1, (n, t))
            self.assertEqual(greatest(n, held)[0], 2 ** n - 1, (n, t))


class RulesThatRiseOrNot(unittest.TestCase):
    def test_just_if_no_flag_that_comes_up_puts_one_down(self):
        for n in range(1, 5):
            answers = []
            for t in rising_or_not(n):
                falls = puts_one_down(n, t)
                answers.append(rises(n, t))
                self.assertEqual(answers[-1], [0 if falls else 1], (n, t))
                for answered in (least(n, t), greatest(n, t), join(n, 0, 0, t), meet(n, 0, 0, t), seeds(n, t)):
                    self.assertEqual(answered == [-16], falls, (n, t))
            self.assertIn([0], answers)
            self.assertIn([1], answers)


if __name__ == "__main__":
    unittest.main()
