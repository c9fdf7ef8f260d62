"""What the tests share. States are sets of towers here, so that nothing is told the program's way."""

from itertools import combinations, product
from math import prod

LARGEST = 4294967295

FALLING = {1: 1, 2: 7, 3: 127, 4: 32767}

NOT_RISING = [(1, [1]), (2, [12, 5]), (2, [6, 10]), (3, [150, 170, 204]), (4, [27030, 0, 0, 0])]

WRONG_INPUTS = [
    # n is not 1 to 4
    (0, []),
    (0, [0]),
    (5, [0, 0, 0, 0, 0]),
    (5, [0, 0, 0, 0]),
    (5, []),
    (10, [0] * 10),
    (LARGEST, []),
    (LARGEST, [0]),
    (LARGEST, [0] * 10),
    # t is empty
    (1, []),
    (2, []),
    (3, []),
    (4, []),
    # one rule too few
    (2, [0]),
    (3, [0, 0]),
    (4, [0, 0, 0]),
    # one rule too many
    (1, [0, 0]),
    (2, [0, 0, 0]),
    (3, [0, 0, 0, 0]),
    (4, [0, 0, 0, 0, 0]),
    # as many rules as can be handed in
    (1, [0] * 10),
    (4, [65535] * 10),
    # a rule that is just too large, one above it, and the largest, at each tower
    (1, [4]),
    (1, [5]),
    (1, [65535]),
    (2, [16, 0]),
    (2, [0, 16]),
    (2, [17, 0]),
    (2, [0, 17]),
    (2, [0, 65535]),
    (3, [256, 0, 0]),
    (3, [0, 256, 0]),
    (3, [0, 0, 256]),
    (3, [257, 0, 0]),
    (3, [0, 257, 0]),
    (3, [0, 0, 257]),
    (3, [0, 65535, 0]),
]

WRONG_AND_NOT_RISING = [
    (0, [1]),
    (5, [1] * 5),
    (LARGEST, [1] * 10),
    (1, [1, 1]),
    (1, [5]),
    (2, [7]),
    (2, [7, 7, 7]),
    (2, [7, 16]),
    (2, [16, 7]),
    (3, [127, 0]),
    (3, [127, 0, 257]),
    (4, [32767, 0, 0]),
    (4, [32767, 0, 0, 0, 0]),
]

# Rules that don't rise, with x and y at rest all the same: n, x, y, t.
AT_REST_BUT_NOT_RISING = [
    (2, 1, 3, [14, 13]),
    (3, 1, 2, [170, 204, 16]),
    (4, 1, 2, [43690, 52428, 0, 4096]),
]


def all_states(n):
    return [frozenset(chosen) for size in range(n + 1) for chosen in combinations(range(n), size)]


def number_of(state):
    return sum(2 ** tower for tower in state)


def numbers(states):
    return [number_of(state) for state in states]


def rule_of(n, is_up):
    """The rule's number, from a function that tells of each set of towers whether the flag is up next."""
    return sum(2 ** number_of(state) for state in all_states(n) if is_up(state))


def never(n):
    return rule_of(n, lambda state: False)


def always(n):
    return rule_of(n, lambda state: True)


def follows(n, tower):
    return rule_of(n, lambda state: tower in state)


def says_up(rule, state):
    return rule // 2 ** number_of(state) % 2 == 1


def comes_of(t, state):
    return frozenset(tower for tower, rule in enumerate(t) if says_up(rule, state))


def puts_one_down(n, t):
    """Whether some flag that comes up, by itself, puts one down."""
    for state in all_states(n):
        for tower in range(n):
            if not comes_of(t, state) <= comes_of(t, state | {tower}):
                return True
    return False


def steps_between(t, start, goal, at_most):
    """Behind how few steps, all at once, the goal comes of the start; None if it doesn't."""
    state = start
    for steps in range(at_most + 1):
        if state == goal:
            return steps
        state = comes_of(t, state)
    return None


def states_at_rest(n, t):
    return [state for state in all_states(n) if comes_of(t, state) == state]


def one_behind_another(t):
    """Every state that comes of no flag up, one tower behind another, in whatever order."""
    found = [frozenset()]
    for state in found:
        for tower, rule in enumerate(t):
            after = state | {tower} if says_up(rule, state) else state - {tower}
            if after not in found:
                found.append(after)
    return found


def brings_all_up(n, t, held):
    """Whether all flags come up, all at once, from just the held ones up, if these stay up always."""
    state = held
    for step in range(2 ** n):
        state = comes_of(t, state) | held
    return len(state) == n


def rising_rules(n):
    """Every rule that rises, built from those of one tower fewer: one half under the other."""
    if n == 0:
        return [0, 1]
    halves = rising_rules(n - 1)
    width = 2 ** (n - 1)
    return [low + high * 2 ** width for low, high in product(halves, halves) if low & high == low]


def spread_lists(choices, how_many):
    """So many lists, each with one of every tower's choices, spread evenly over all such lists."""
    stride = prod(len(rules) for rules in choices) // how_many | 1
    lists = []
    for turn in range(how_many):
        left = turn * stride
        t = []
        for rules in choices:
            left, place = divmod(left, len(rules))
            t.append(rules[place])
        lists.append(t)
    return lists


def some_rising(n):
    """Lists of rules that rise: all of them up to three towers, of four a fixed choice of many."""
    rules = rising_rules(n)
    if n < 4:
        return [list(t) for t in product(rules, repeat=n)]
    # Most rules leave few states at rest; few are always up or never, or do as one other tower: those go far.
    simple = [never(n), always(n)] + [follows(n, tower) for tower in range(n)]
    return spread_lists([rules] * n, 3000) + [list(t) for t in product(simple, repeat=n)]


def nearly_rising(n):
    """The rules that rise, with what they say of one state turned round: most don't rise any more, some do."""
    return [rule ^ 2 ** number_of(state) for rule in rising_rules(n) for state in all_states(n)]


def rising_or_not(n):
    """Lists of rules of which some rise and some don't: all of them up to two towers, of more a fixed choice."""
    every = range(2 ** 2 ** n)
    if n < 3:
        return [list(t) for t in product(every, repeat=n)]
    lists = spread_lists([every] * n, 500) + some_rising(n)[::10]
    # One rule at fault among rules that rise is the hardest to see.
    for tower in range(n):
        choices = [rising_rules(n)] * n
        choices[tower] = nearly_rising(n)
        lists = lists + spread_lists(choices, 500)
    return lists


def staying_up(n, tower):
    """The rules that rise and by which the tower's flag, once up, stays up."""
    own = follows(n, tower)
    return [rule for rule in rising_rules(n) if rule & own == own]


def staying_down(n, tower):
    """The rules that rise and by which the tower's flag, once down, stays down."""
    own = follows(n, tower)
    return [rule for rule in rising_rules(n) if rule & own == rule]


def many_at_rest(n):
    """Lists of rules that rise; of four towers also some with many states at rest: no flag goes down, or none up."""
    if n < 4:
        return some_rising(n)
    no_flag_down = spread_lists([staying_up(n, tower) for tower in range(n)], 500)
    no_flag_up = spread_lists([staying_down(n, tower) for tower in range(n)], 500)
    return some_rising(n) + no_flag_down + no_flag_up


class ReadOnlyList(list):
    """A list that lets nobody change it, not even for a while."""

    def refuse(self, *given, **named):
        raise AssertionError("the list that was handed in was to be changed")

    __setitem__ = __delitem__ = __iadd__ = __imul__ = refuse
    append = extend = insert = pop = remove = clear = sort = reverse = refuse


class EveryCall:
    """What holds of every call; a test case gives the call and, for some arguments, the answers."""

    def call(self, *arguments):
        raise NotImplementedError

    answers = []

    def test_what_is_handed_in_is_not_changed(self):
        for arguments, answer in self.answers:
            *numbers, t = arguments
            handed = ReadOnlyList(t)
            self.assertEqual(self.call(*numbers, handed), answer, arguments)
            self.assertEqual(handed, t)

    def test_each_call_is_as_if_the_first(self):
        for turn in range(2):
            for arguments, answer in self.answers:
                self.assertEqual(self.call(*arguments), answer, arguments)
                self.assertEqual(self.call(*arguments), answer, arguments)

    def test_an_answer_belongs_to_its_caller(self):
        for arguments, answer in self.answers:
            self.call(*arguments).append(7)
            self.assertEqual(self.call(*arguments), answer, arguments)

    def test_kinds(self):
        for arguments, answer in self.answers:
            answered = self.call(*arguments)
            self.assertIs(type(answered), list, arguments)
            self.assertEqual({type(number) for number in answered}, {int}, arguments)


class RefusedRules:
    """What every call but rises refuses of n and t; a test case gives the call, made with these."""

    def call_with_rules(self, n, t):
        raise NotImplementedError

    def test_what_is_not_as_told(self):
        for n, t in WRONG_INPUTS:
            self.assertEqual(self.call_with_rules(n, t), [-22], (n, t))

    def test_rules_that_do_not_rise(self):
        for n, t in NOT_RISING:
            self.assertEqual(self.call_with_rules(n, t), [-16], (n, t))

    def test_a_falling_rule_at_whatever_tower(self):
        for n in range(1, 5):
            for tower in range(n):
                t = [follows(n, 0)] * n
                t[tower] = FALLING[n]
                self.assertEqual(self.call_with_rules(n, t), [-16], (n, t))

    def test_refused_just_if_the_rules_do_not_rise(self):
        for rules in product(range(16), repeat=2):
            t = list(rules)
            self.assertEqual(self.call_with_rules(2, t) == [-16], puts_one_down(2, t), t)

    def test_not_as_told_goes_ahead_of_not_rising(self):
        for n, t in WRONG_AND_NOT_RISING:
            self.assertEqual(self.call_with_rules(n, t), [-22], (n, t))


class RefusedStates:
    """What join and meet refuse of x and y; a test case gives the call."""

    def call(self, *arguments):
        raise NotImplementedError

    def test_not_a_state(self):
        for n in range(1, 5):
            t = [follows(n, tower) for tower in range(n)]
            for wrong in (2 ** n, 2 ** n + 1, LARGEST):
                for x, y in [(wrong, 0), (0, wrong), (wrong, 2 ** n - 1), (2 ** n - 1, wrong), (wrong, wrong)]:
                    self.assertEqual(self.call(n, x, y, t), [-22], (n, x, y))

    def test_not_at_rest(self):
        for n, x, y, t in [
            (1, 1, 0, [0]),
            (1, 0, 1, [0]),
            (1, 1, 1, [0]),
            (2, 1, 0, [12, 10]),
            (2, 3, 2, [12, 10]),
            (2, 1, 2, [12, 10]),
            (3, 3, 7, [170, 204, 248]),
            (3, 0, 3, [170, 204, 248]),
            (3, 3, 3, [170, 204, 248]),
            (4, 3, 12, [43690, 52428, 63736, 65520]),
            (4, 15, 4, [43690, 52428, 63736, 65520]),
            (4, 3, 4, [43690, 52428, 63736, 65520]),
        ]:
            self.assertEqual(self.call(n, x, y, t), [-33], (n, x, y, t))

    def test_refused_just_if_one_is_not_at_rest(self):
        for n in range(1, 5):
            for t in some_rising(n)[::37]:
                for x, y in product(all_states(n), repeat=2):
                    refused = comes_of(t, x) != x or comes_of(t, y) != y
                    self.assertEqual(self.call(n, number_of(x), number_of(y), t) == [-33], refused, (n, x, y, t))

    def test_at_rest_by_rules_that_do_not_rise(self):
        for n, x, y, t in AT_REST_BUT_NOT_RISING:
            self.assertTrue({x, y} <= set(numbers(states_at_rest(n, t))), (n, x, y, t))
            self.assertEqual(self.call(n, x, y, t), [-16], (n, x, y, t))

    def test_not_as_told_and_not_rising(self):
        for n, x, y, t in AT_REST_BUT_NOT_RISING:
            for wrong in (2 ** n, 2 ** n + 1, LARGEST):
                self.assertEqual(self.call(n, wrong, y, t), [-22], (n, wrong, y, t))
                self.assertEqual(self.call(n, x, wrong, t), [-22], (n, x, wrong, t))
                self.assertEqual(self.call(n, wrong, wrong, t), [-22], (n, wrong, wrong, t))
            self.assertEqual(self.call(n, x, y, t + [0]), [-22], (n, x, y, t))
            self.assertEqual(self.call(n, x, y, t[:-1]), [-22], (n, x, y, t))

    def test_not_as_told_and_not_at_rest(self):
        for n in range(1, 5):
            t = [always(n)] * n
            for wrong in (2 ** n, 2 ** n + 1, LARGEST):
                self.assertEqual(self.call(n, wrong, 0, t), [-22], (n, wrong))
                self.assertEqual(self.call(n, 0, wrong, t), [-22], (n, wrong))
            self.assertEqual(self.call(n, 0, 0, t + [0]), [-22], n)
            self.assertEqual(self.call(n, 0, 0, t[1:]), [-22], n)
        self.assertEqual(self.call(5, 0, 0, [65535] * 5), [-22])
        self.assertEqual(self.call(LARGEST, LARGEST, LARGEST, [65535] * 10), [-22])

    def test_not_rising_and_not_at_rest(self):
        for n, x, y, t in [
            (1, 0, 1, [1]),
            (2, 0, 1, [7, 12]),
            (2, 1, 0, [7, 12]),
            (2, 0, 0, [7, 12]),
            (3, 0, 6, [127, 204, 240]),
            (3, 5, 7, [127, 204, 240]),
            (4, 0, 15, [32767, 52428, 61680, 65280]),
            (4, 1, 15, [32767, 52428, 61680, 65280]),
        ]:
            self.assertEqual(self.call(n, x, y, t), [-16], (n, x, y, t))

    def test_all_three(self):
        for n in range(1, 5):
            falling = [FALLING[n]] * n
            for wrong in (2 ** n, 2 ** n + 1, LARGEST):
                self.assertEqual(self.call(n, wrong, 0, falling), [-22], (n, wrong))
                self.assertEqual(self.call(n, 0, wrong, falling), [-22], (n, wrong))
            self.assertEqual(self.call(n, 0, 0, falling + [0]), [-22], n)
            self.assertEqual(self.call(n, 0, 0, falling[1:]), [-22], n)
