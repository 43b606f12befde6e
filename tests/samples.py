"""Weights that several tests use."""

RING_OF_3 = [0, 1, 0,
             0, 0, 1,
             1, 0, 0]
PATH_OF_3 = [0, 1, 0,
             1, 0, 1,
             0, 1, 0]
UNEVEN_3 = [1, 2, 0,
            0, 3, 4,
            5, 0, 0]
STAR_OF_4 = [0, 1, 1, 1,
             1, 0, 0, 0,
             1, 0, 0, 0,
             1, 0, 0, 0]
UNEVEN_4 = [0, 7, 0, 1,
            2, 2, 9, 0,
            0, 0, 5, 3,
            100, 0, 1, 0]
RING_OF_5 = [0, 3, 0, 0, 2,
             2, 0, 3, 0, 0,
             0, 2, 0, 3, 0,
             0, 0, 2, 0, 3,
             3, 0, 0, 2, 0]
UNEVEN_5 = [11, 0, 97, 3, 0,
            0, 0, 0, 1, 100,
            29, 31, 0, 0, 0,
            0, 0, 17, 13, 19,
            1, 2, 3, 4, 5]
# Place 0 is bred into by place 2 alone, and rarely.
SLOW_5 = [0, 0, 1, 0, 0,
          0, 0, 0, 0, 100,
          1, 100, 100, 100, 100,
          0, 100, 1, 100, 100,
          0, 100, 0, 1, 100]
# The heats are 1 and a bit (1/1025100), 1, and 1 less that bit.
ALMOST_EVEN_3 = [42, 67, 92,
                 97, 68, 39,
                 71, 75, 79]
# Each with its number of places: those that are not alike, from 2 to 5 places, with weights to itself.
UNEVEN = [(2, [5, 1, 100, 0]), (3, UNEVEN_3), (4, UNEVEN_4), (5, UNEVEN_5)]
# Places that aren't joined.
APART = [(2, [1, 0, 0, 1]),            # each keeps to itself
         (2, [1, 1, 0, 1]),            # 0 to 1, no way back
         (2, [1, 0, 1, 1]),            # 1 to 0, no way there
         (3, [0, 1, 0, 1, 0, 0, 0, 1, 0]),      # nothing goes to 2
         (3, [0, 1, 1, 1, 0, 0, 0, 0, 100]),    # nothing leaves 2
         (4, [0, 1, 0, 0, 1, 0, 0, 0, 0, 0, 0, 1, 0, 0, 1, 0]),      # two pairs
         (4, [0, 1, 0, 0, 1, 0, 1, 0, 0, 0, 0, 1, 0, 0, 1, 0]),      # two pairs, one way between them
         (5, [0, 1, 0, 0, 0, 0, 0, 1, 0, 0, 0, 0, 0, 1, 0, 0, 0, 0, 0, 1, 0, 0, 0, 0, 1]),    # a ring cut open
         (5, [100 if i == j else 0 for i in range(5) for j in range(5)])]


def full(n):
    """Every place breeds into every other one alike."""
    return [0 if i == j else 1 for i in range(n) for j in range(n)]


def patient_ring(n):
    """Every place keeps 100 of 101 to itself, the rest goes to the one behind it."""
    return [100 if i == j else 1 if j == (i + 1) % n else 0 for i in range(n) for j in range(n)]


def random_weights(source, n, greatest):
    """Random weights, with a ring above 0 among them, so that the places are joined."""
    weights = [source.choice([0, source.randint(0, greatest)]) for k in range(n * n)]
    for i in range(n):
        weights[i * n + (i + 1) % n] = source.randint(1, greatest)
    return weights
