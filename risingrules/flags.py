"""Towers with flags up or down, whose rules rise: with more flags up, none comes down."""

MOST_TOWERS = 4

WRONG_INPUT = -22
NOT_RISING = -16
NOT_AT_REST = -33


def input_fits(n, t):
    """Whether n is a number of towers and t has just one rule for each of them."""
    if n < 1 or n > MOST_TOWERS or len(t) != n:
        return False
    # Only now: for an n that is too large this number could not be held.
    bound = 1 << (1 << n)
    for rule in t:
        if rule >= bound:
            return False
    return True


def state_after(t, state):
    """What comes of the state, all at once."""
    after = 0
    for tower, rule in enumerate(t):
        after = after | (((rule >> state) & 1) << tower)
    return after


def is_under(low, high):
    """Whether all flags that are up in low are up in high."""
    return (low & high) == low


def rules_rise(n, t):
    """Whether of any two states, one under the other, the same holds of what comes of them."""
    states = 1 << n
    afters = [state_after(t, state) for state in range(states)]
    for low in range(states):
        for high in range(states):
            if is_under(low, high) and not is_under(afters[low], afters[high]):
                return False
    return True


def refusal_due(n, states, t):
    """The refusal of all calls but rises that is due, or 0 if none is; states are the ones handed in."""
    if not input_fits(n, t):
        return WRONG_INPUT
    for state in states:
        if state >= 1 << n:
            return WRONG_INPUT
    if not rules_rise(n, t):
        return NOT_RISING
    for state in states:
        if state_after(t, state) != state:
            return NOT_AT_REST
    return 0


def rest_after(t, state):
    """The state at rest that comes of this one, then behind how few steps."""
    steps = 0
    after = state_after(t, state)
    # This ends: callers start where the first step only puts flags up, or only puts flags down, and as the rules
    # rise each further step does the same.
    while after != state:
        state = after
        steps = steps + 1
        after = state_after(t, state)
    return [state, steps]


def rises(n, t):
    """One number: 1 if the rules rise, else 0; or a refusal."""
    if not input_fits(n, t):
        return [WRONG_INPUT]
    if rules_rise(n, t):
        return [1]
    return [0]


def least(n, t):
    """Two numbers: the least state at rest, then in how few steps it comes of no flag up; or a refusal."""
    refusal = refusal_due(n, [], t)
    if refusal != 0:
        return [refusal]
    return rest_after(t, 0)


def greatest(n, t):
    """Two numbers: the greatest state at rest, then in how few steps it comes of all flags up; or a refusal."""
    refusal = refusal_due(n, [], t)
    if refusal != 0:
        return [refusal]
    return rest_after(t, (1 << n) - 1)


def join(n, x, y, t):
    """One number: of the states at rest that x and y are under, the least; or a refusal."""
    refusal = refusal_due(n, [x, y], t)
    if refusal != 0:
        return [refusal]
    # x and y come of themselves, so what comes of both together has at least their flags up.
    return [rest_after(t, x | y)[0]]


def meet(n, x, y, t):
    """One number: of the states at rest that are under x and y, the greatest; or a refusal."""
    refusal = refusal_due(n, [x, y], t)
    if refusal != 0:
        return [refusal]
    # x and y come of themselves, so what comes of the flags they share has none but these up.
    return [rest_after(t, x & y)[0]]
