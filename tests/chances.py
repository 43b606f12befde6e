"""The chance of a takeover, and its steps, by other ways than the program's own, in exact fractions."""

from fractions import Fraction


def downwards(chance):
    """A fraction in millionths."""
    return chance.numerator * 1000000 // chance.denominator


def breeding_chances(n, weights):
    rows = [weights[i * n:i * n + n] for i in range(n)]
    return [[Fraction(weight, sum(row)) for weight in row] for row in rows]


def heats_by_fractions(n, weights):
    breeding = breeding_chances(n, weights)
    return [sum(breeding[i][j] for i in range(n)) for j in range(n)]


def step_chances(n, a, b, state, weights):
    """What one step makes of a state, told as in the document: who breeds, and then where to."""
    breeding = breeding_chances(n, weights)
    strengths = [a if state >> i & 1 else b for i in range(n)]
    after = {}
    for i in range(n):
        for j in range(n):
            to = state | 1 << j if state >> i & 1 else state & ~(1 << j)
            chance = Fraction(strengths[i], sum(strengths)) * breeding[i][j]
            after[to] = after.get(to, Fraction(0)) + chance
    return after


def solved(rows):
    """The unknowns of equations, each row the factors and then the right side."""
    rows = [list(row) for row in rows]
    size = len(rows)
    for k in range(size):
        pivot = next(r for r in range(k, size) if rows[r][k] != 0)
        rows[k], rows[pivot] = rows[pivot], rows[k]
        rows[k] = [number / rows[k][k] for number in rows[k]]
        for r in range(size):
            if r != k and rows[r][k] != 0:
                factor = rows[r][k]
                rows[r] = [x - factor * y for x, y in zip(rows[r], rows[k])]
    return [row[-1] for row in rows]


def chances_by_steps(n, a, b, weights):
    """The chances from all states: each is the mean of the chances from where one step leads."""
    states = range(2 ** n)
    rows = []
    for state in states:
        row = [Fraction(0)] * (2 ** n + 1)
        row[state] += 1
        if state == 2 ** n - 1:
            row[-1] = Fraction(1)
        elif state != 0:
            for to, chance in step_chances(n, a, b, state, weights).items():
                row[to] -= chance
        rows.append(row)
    return solved(rows)


def chance_of_two(a, b, s, weights):
    """Of two places, the first change decides."""
    breeding = breeding_chances(2, weights)
    first, second = (a, b) if s == 1 else (b, a)
    out_of_first = first * breeding[0][1]
    out_of_second = second * breeding[1][0]
    share = out_of_first / (out_of_first + out_of_second)
    return share if s == 1 else 1 - share


def chance_of_even_heat(n, a, b, count):
    """Where all heats are 1, only the count of new places matters: each change is a gain a times for b losses."""
    if a == b:
        return Fraction(count, n)
    loss = Fraction(b, a)
    return (1 - loss ** count) / (1 - loss ** n)


def chances_of_equal_kinds(n, weights):
    """Where a = b, each place has a share, and a set's chance is the sum of its places' shares.

    A share times the heat of its place is the mean share of the places that the place breeds into.
    """
    breeding = breeding_chances(n, weights)
    rows = []
    for i in range(n - 1):
        row = [-breeding[i][j] for j in range(n)] + [Fraction(0)]
        row[i] += sum(breeding[k][i] for k in range(n))
        rows.append(row)
    rows.append([Fraction(1)] * (n + 1))
    shares = solved(rows)
    return [sum((shares[i] for i in range(n) if s >> i & 1), Fraction(0)) for s in range(2 ** n)]


def steps_by_steps(n, a, b, weights):
    """The steps to be expected from all states: one more than the mean of those from where one step leads."""
    rows = []
    for state in range(2 ** n):
        row = [Fraction(0)] * (2 ** n + 1)
        row[state] += 1
        if state not in (0, 2 ** n - 1):
            row[-1] = Fraction(1)
            for to, chance in step_chances(n, a, b, state, weights).items():
                row[to] -= chance
        rows.append(row)
    return solved(rows)


def steps_by_visits(n, a, b, s, weights):
    """How often each state in which both kinds live is to be expected, from s, and the sum of that.

    Each is come upon as often as a step leads to it from those, and once more if it is s.
    """
    states = range(1, 2 ** n - 1)
    rows = [[Fraction(int(k == r)) for k in states] + [Fraction(int(r == s))] for r in states]
    for state in states:
        for to, chance in step_chances(n, a, b, state, weights).items():
            if to in states:
                rows[to - 1][state - 1] -= chance
    return sum(solved(rows))


def steps_of_two(a, b, s, weights):
    """Of two places, the first change is the end: the steps are 1 divided by its chance."""
    breeding = breeding_chances(2, weights)
    first, second = (a, b) if s == 1 else (b, a)
    return (a + b) / (first * breeding[0][1] + second * breeding[1][0])


def steps_of_all_alike(n, a, b, count):
    """Where every place breeds into every other one alike, only the count of new places matters.

    A sum in closed form, for a count that goes up and down by one (as for Moran's process).
    """
    loss = Fraction(b, a)

    def gain(k):
        return Fraction(a * k, a * k + b * (n - k)) * Fraction(n - k, n - 1)

    def upto(k):
        return sum(loss ** (k - m) / gain(m) for m in range(1, k + 1))
    from_one = sum(upto(k) for k in range(1, n)) / sum(loss ** k for k in range(n))
    return sum(upto(k) for k in range(count, n)) - from_one * sum(loss ** k for k in range(count, n))
