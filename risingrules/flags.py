"""Towers with flags up or down, whose rules rise: with more flags up, none comes down."""

MOST_TOWERS = 4

WRONG_INPUT = -22
NOT_RISING = -16
NOT_AT_REST = -33


def input_fits(n, t):
    """Whether n is a number of towers and t has just one rule for each of them."""
    if n < 1 or n > MOST_TOWERS or len(t) != n:
        return False
    # Only now: for an n that is too large this number could not be held.
    bound = 1 << (1 << n)
    for rule in t:
        if rule >= bound:
            return False
    return True


def state_after(t, state):
    """What comes of the state, all at once."""
    after = 0
    for tower, rule in enumerate(t):
        after = after | (((rule >> state) & 1) << tower)
    return after


def is_under(low, high):
    """Whether all flags that are up in low are up in high."""
    return (low & high) == low


def rules_rise(n, t):
    """Whether of any two states, one under the other, the same holds of what comes of them."""
    states = 1 << n
    afters = [state_after(t, state) for state in range(states)]
    for low in range(states):
        for high in range(states):
            if is_under(low, high) and not is_under(afters[low], afters[high]):
                return False
    return True


def refusal_due(n, states, t):
    """The refusal of all calls but rises that is due, or 0 if none is; states are the ones handed in."""
    if not input_fits(n, t):
        return WRONG_INPUT
    for state in states:
        if state >= 1 << n:
            return WRONG_INPUT
    if not rules_rise(n, t):
        return NOT_RISING
    for state in states:
        if state_after(t, state) != state:
            return NOT_AT_REST
    return 0


def rest_after(t, state):
    """The state at rest that comes of this one, then behind how few steps."""
    # Callers start where the first step only puts flags up, or only puts flags down. As the rules rise each further
    # step does the same, so no more steps than towers are needed.
    for steps in range(len(t)):
        after = state_after(t, state)
        if after == state:
            return [state, steps]
        state = after
    return [state, len(t)]


def all_flags_up(n):
    """The state in which all flags are up."""
    return (1 << n) - 1


def flags_up(n, state):
    """How many flags are up in the state."""
    return sum([(state >> tower) & 1 for tower in range(n)])


def rules_held_up(n, t, held):
    """The rules, as a list of their own, with those of the towers in held saying up, always."""
    always = (1 << (1 << n)) - 1
    return [always if (held >> tower) & 1 else rule for tower, rule in enumerate(t)]


def brings_all_up(n, t, held):
    """Whether the towers in held, held up, bring all flags up from just their flags up."""
    # What is held up stays up, so the first step only puts flags up, and held rules rise if the others do.
    return rest_after(rules_held_up(n, t, held), held)[0] == all_flags_up(n)


def rises(n, t):
    """One number: 1 if the rules rise, else 0; or a refusal."""
    if not input_fits(n, t):
        return [WRONG_INPUT]
    if rules_rise(n, t):
        return [1]
    return [0]


def least(n, t):
    """Two numbers: the least state at rest, then in how few steps it comes of no flag up; or a refusal."""
    refusal = refusal_due(n, [], t)
    if refusal != 0:
        return [refusal]
    return rest_after(t, 0)


def greatest(n, t):
    """Two numbers: the greatest state at rest, then in how few steps it comes of all flags up; or a refusal."""
    refusal = refusal_due(n, [], t)
    if refusal != 0:
        return [refusal]
    return rest_after(t, all_flags_up(n))


def join(n, x, y, t):
    """One number: of the states at rest that x and y are under, the least; or a refusal."""
    refusal = refusal_due(n, [x, y], t)
    if refusal != 0:
        return [refusal]
    # x and y come of themselves, so what comes of both together has at least their flags up.
    return [rest_after(t, x | y)[0]]


def meet(n, x, y, t):
    """One number: of the states at rest that are under x and y, the greatest; or a refusal."""
    refusal = refusal_due(n, [x, y], t)
    if refusal != 0:
        return [refusal]
    # x and y come of themselves, so what comes of the flags they share has none but these up.
    return [rest_after(t, x & y)[0]]


def seeds(n, t):
    """Two numbers: how few towers, held up, bring all flags up, then the least set of so few; or a refusal."""
    refusal = refusal_due(n, [], t)
    if refusal != 0:
        return [refusal]
    # All towers together always do. Lesser numbers come first, so of sets of as many towers the least one stays.
    fewest = all_flags_up(n)
    for held in range(all_flags_up(n)):
        if flags_up(n, held) < flags_up(n, fewest) and brings_all_up(n, t, held):
            fewest = held
    return [flags_up(n, fewest), fewest]
