"""Places that hold a new or an old kind and breed into one another.

A set of places is the sum of 2 to the i over its places i. Such a set is also the state of all places:
it holds those that have the new kind.
"""

MILLION = 1000000


def takes(n, a, b, s, weights):
    """The chance, in millionths, that the new kind holds all places in the end, where it begins at the set s."""
    refusal = refusal_of(n, a, b, s, weights)
    if refusal != 0:
        return [refusal]
    if s == 0:
        return [0, 0]
    if s == whole_set(n):
        return [0, MILLION]
    return [0, millionths(first_unknown(takeover_equations(n, a, b, s, weights)))]


def mean(n, a, b, weights):
    """The mean, in millionths, of the chance of a takeover over all starts with one place."""
    refusal = refusal_without_start(n, a, b, weights)
    if refusal != 0:
        return [refusal]
    total = (0, 1)
    for chance in chances_from_one(n, a, b, weights):
        total = pair_sum(total, chance)
    return [0, millionths((total[0], total[1] * n))]


def lasts(n, a, b, s, weights):
    """How many steps, in millionths, are to be expected from the set s till all places hold one kind."""
    refusal = refusal_of(n, a, b, s, weights)
    if refusal != 0:
        return [refusal]
    if s == 0 or s == whole_set(n):
        return [0, 0]
    return [0, millionths(first_unknown(lasting_equations(n, a, b, s, weights)))]


def heats(n, weights):
    """1 if all heats are 1, else 0; then the heat of each place, in millionths."""
    if not weights_fit(n, weights):
        return [-1]
    spread = spreads(n, weights)
    sums = [column_sum(n, spread, j) for j in range(n)]
    # A row's chances have the sum 1, so its numbers tell what 1 is on their scale.
    one = sum(spread[:n])
    even = 1 if sums == [one] * n else 0
    return [even] + [millionths((heat, one)) for heat in sums]


def best(n, a, b, weights):
    """The set of the places from which, with the new kind there alone, the chance of a takeover is the greatest."""
    refusal = refusal_without_start(n, a, b, weights)
    if refusal != 0:
        return [refusal]
    chances = chances_from_one(n, a, b, weights)
    places = 0
    for i in range(n):
        if is_greatest(chances[i], chances):
            places = places | (1 << i)
    return [places]


def is_greatest(pair, pairs):
    for other in pairs:
        if pair[0] * other[1] < other[0] * pair[1]:
            return False
    return True


def chances_from_one(n, a, b, weights):
    """For each place the chance of a takeover from there alone, as a pair like that of first_unknown."""
    return [first_unknown(takeover_equations(n, a, b, 1 << i, weights)) for i in range(n)]


def pair_sum(one, other):
    return (one[0] * other[1] + other[0] * one[1], one[1] * other[1])


def millionths(pair):
    return pair[0] * MILLION // pair[1]


def refusal_of(n, a, b, s, weights):
    """The refusal's number, or 0 if there is none."""
    if not weights_fit(n, weights) or not is_strength(a) or not is_strength(b):
        return -1
    if s < 0 or s > whole_set(n):
        return -1
    if not are_joined(n, weights):
        return -2
    return 0


def refusal_without_start(n, a, b, weights):
    # The empty set is always a set of places, so it is never the reason for a refusal.
    return refusal_of(n, a, b, 0, weights)


def weights_fit(n, weights):
    # n comes first: the rows can be told apart only once it is known to be small and above 0.
    if n < 2 or n > 5 or len(weights) != n * n:
        return False
    for weight in weights:
        if weight < 0 or weight > 100:
            return False
    return 0 not in row_sums(n, weights)


def is_strength(number):
    return number >= 1 and number <= 100


def row_sums(n, weights):
    return [sum(weights[i * n:i * n + n]) for i in range(n)]


def column_sum(n, numbers, j):
    return sum([numbers[i * n + j] for i in range(n)])


def whole_set(n):
    return (1 << n) - 1


def holds(places, i):
    """1 if the place i is in the set, else 0."""
    return (places >> i) & 1


def are_joined(n, weights):
    for start in range(n):
        if reached_from(n, weights, start) != whole_set(n):
            return False
    return True


def reached_from(n, weights, start):
    """The set of the places to which a way leads from the place start."""
    reached = 1 << start
    # No way without a detour has n steps or more, so n rounds find all that can be reached.
    for length in range(n):
        for i in range(n):
            if holds(reached, i) == 1:
                reached = reached | row_targets(n, weights, i)
    return reached


def row_targets(n, weights, i):
    """The set of the places into which the place i may breed."""
    targets = 0
    for j in range(n):
        if weights[i * n + j] > 0:
            targets = targets | (1 << j)
    return targets


def spreads(n, weights):
    """The chances of all ways from place to place, times one number that makes them whole."""
    sums = row_sums(n, weights)
    common = 1
    for row_sum in sums:
        common = common * row_sum
    return [weight * (common // sums[k // n]) for k, weight in enumerate(weights)]


def change_rate(n, a, b, spread, state, j):
    """How readily the place j comes to hold the other kind, on a scale that is the same for all j of a state."""
    strength = b if holds(state, j) == 1 else a
    rate = 0
    for i in range(n):
        if holds(state, i) != holds(state, j):
            rate = rate + strength * spread[i * n + j]
    return rate


def takeover_equations(n, a, b, s, weights):
    """One equation for each state in which both kinds live, the unknowns being the chances of a takeover from there.

    The one for s comes first. In its row the right side's constant stands ahead of the unknowns' factors.
    """
    spread = spreads(n, weights)
    states = mixed_states(n, s)
    return [[takeover_rate(n, a, b, spread, state)] + factors(n, a, b, spread, state, states) for state in states]


def lasting_equations(n, a, b, s, weights):
    """The same for the steps that are to be expected from each such state.

    All rates of a state together, those of the steps that change nothing among them, have the sum full_rate: that is
    what one step counts for on their scale.
    """
    spread = spreads(n, weights)
    states = mixed_states(n, s)
    return [[full_rate(n, a, b, spread, state)] + factors(n, a, b, spread, state, states) for state in states]


def mixed_states(n, first):
    """All states in which both kinds live, first ahead of the others."""
    return [first] + [state for state in range(1, whole_set(n)) if state != first]


def takeover_rate(n, a, b, spread, state):
    """How readily one change lets the new kind hold all places."""
    rate = 0
    for j in range(n):
        if state ^ (1 << j) == whole_set(n):
            rate = rate + change_rate(n, a, b, spread, state, j)
    return rate


def full_rate(n, a, b, spread, state):
    rate = 0
    for i in range(n):
        strength = a if holds(state, i) == 1 else b
        rate = rate + strength * sum(spread[i * n:i * n + n])
    return rate


def factors(n, a, b, spread, state, states):
    """The factors of the unknowns of all states, in the equation for one of them.

    Steps that change nothing are left out: they lead to the same unknown on both sides. What all rates of one state
    are divided by is left out on both sides, too.
    """
    row = [0] * len(states)
    for j in range(n):
        rate = change_rate(n, a, b, spread, state, j)
        after = state ^ (1 << j)
        row[states.index(state)] = row[states.index(state)] + rate
        # Where one kind holds all places nothing is unknown.
        if after != 0 and after != whole_set(n):
            row[states.index(after)] = row[states.index(after)] - rate
    return row


def first_unknown(rows):
    """The first unknown of the equations as a pair: it is the first number divided by the second, which is above 0.

    The last equation is used up to remove the last unknown, till one is left. Its factor there is never 0, since the
    places are joined: from each state the changes lead to an end.
    """
    divisor = 1
    while len(rows) > 1:
        last = rows[-1]
        rows = [without_last(row, last, divisor) for row in rows[:-1]]
        divisor = last[-1]
    return (rows[0][0], rows[0][1])


def without_last(row, last, divisor):
    # Every number here is a determinant of the first equations' numbers once it is divided by the factor that was
    # used the time before (Bareiss), so the division leaves no rest, and the numbers stay small.
    return [(row[k] * last[-1] - row[-1] * last[k]) // divisor for k in range(len(row) - 1)]
