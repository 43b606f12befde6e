import unittest

from takeover.places import takes

LEAST = -2147483648
GREATEST = 2147483647
REFUSED = [-1]
NOT_JOINED = [-2]


def answered(answer):
    return len(answer) == 2 and answer[0] == 0


class Wrong(unittest.TestCase):
    def test_n(self):
        for n in (2, 3, 4, 5):
            self.assertTrue(answered(takes(n, 1, 1, 1, [1] * (n * n))))
        for n in (LEAST, -46341, -6, -5, -3, -2, -1, 0, 1, 6, 7, 40, 65536, GREATEST):
            for count in (0, 1, 4, 9, 16, 25, 36, 40):
                self.assertEqual(takes(n, 1, 1, 1, [1] * count), REFUSED)
        # There are as many weights as the number asks for, and s is within its sets: n itself is refused.
        self.assertEqual(takes(0, 1, 1, 0, []), REFUSED)
        self.assertEqual(takes(1, 1, 1, 1, [1]), REFUSED)
        self.assertEqual(takes(6, 1, 1, 1, [1] * 36), REFUSED)
        self.assertEqual(takes(-2, 1, 1, 0, [1] * 4), REFUSED)

    def test_count_of_weights(self):
        for n in (2, 3, 4, 5):
            for count in range(41):
                answer = takes(n, 2, 1, 1, [1] * count)
                if count == n * n:
                    self.assertTrue(answered(answer))
                else:
                    self.assertEqual(answer, REFUSED)

    def test_each_weight(self):
        for n in (2, 5):
            for k in range(n * n):
                for number in (LEAST, -101, -2, -1, 101, 102, GREATEST):
                    weights = [1] * (n * n)
                    weights[k] = number
                    self.assertEqual(takes(n, 1, 1, 1, weights), REFUSED)
                for number in (0, 1, 99, 100):
                    weights = [1] * (n * n)
                    weights[k] = number
                    answer = takes(n, 1, 1, 1, weights)
                    # Of two places, a 0 between them leaves no way, and so is refused with another number.
                    if n == 2 and number == 0 and k in (1, 2):
                        self.assertEqual(answer, NOT_JOINED)
                    else:
                        self.assertTrue(answered(answer))

    def test_weights_that_make_up_for_one_another(self):
        # The row's sum is fine, a weight of it isn't.
        self.assertEqual(takes(2, 1, 1, 1, [-1, 2, 1, 0]), REFUSED)
        self.assertEqual(takes(2, 1, 1, 1, [1, 1, LEAST, GREATEST]), REFUSED)

    def test_sum_of_a_row(self):
        for n in (2, 3, 4, 5):
            for i in range(n):
                weights = [1] * (n * n)
                weights[i * n:i * n + n] = [0] * n
                self.assertEqual(takes(n, 1, 1, 1, weights), REFUSED)
                weights[i * n + (i + 1) % n] = 1
                self.assertTrue(answered(takes(n, 1, 1, 1, weights)))
            self.assertEqual(takes(n, 1, 1, 1, [0] * (n * n)), REFUSED)

    def test_column_of_zeros_is_no_row(self):
        # Nothing goes to place 0: the rows are fine, the places aren't joined.
        self.assertEqual(takes(2, 1, 1, 1, [0, 1, 0, 1]), NOT_JOINED)

    def test_a_and_b(self):
        for number in (LEAST, -100, -1, 0, 101, 102, GREATEST):
            self.assertEqual(takes(2, number, 1, 1, [0, 1, 1, 0]), REFUSED)
            self.assertEqual(takes(2, 1, number, 1, [0, 1, 1, 0]), REFUSED)
            self.assertEqual(takes(2, number, number, 1, [0, 1, 1, 0]), REFUSED)
        for number in (1, 2, 99, 100):
            self.assertTrue(answered(takes(2, number, 1, 1, [0, 1, 1, 0])))
            self.assertTrue(answered(takes(2, 1, number, 1, [0, 1, 1, 0])))

    def test_a_and_b_where_the_chance_needs_neither(self):
        for s in (0, 3):
            self.assertEqual(takes(2, 0, 1, s, [0, 1, 1, 0]), REFUSED)
            self.assertEqual(takes(2, 1, 101, s, [0, 1, 1, 0]), REFUSED)

    def test_s(self):
        for n in (2, 3, 4, 5):
            weights = [1] * (n * n)
            for s in (LEAST, -2 ** n, -2, -1, 2 ** n, 2 ** n + 1, 32, 64, GREATEST):
                self.assertEqual(takes(n, 1, 1, s, weights), REFUSED)
            for s in range(2 ** n):
                self.assertTrue(answered(takes(n, 1, 1, s, weights)))

    def test_all_at_once(self):
        self.assertEqual(takes(LEAST, GREATEST, LEAST, GREATEST, [LEAST] * 40), REFUSED)
        self.assertEqual(takes(GREATEST, LEAST, GREATEST, LEAST, [GREATEST] * 40), REFUSED)
        self.assertEqual(takes(GREATEST, LEAST, GREATEST, LEAST, []), REFUSED)


class NotJoined(unittest.TestCase):
    APART = [(2, [1, 0, 0, 1]),            # each keeps to itself
             (2, [1, 1, 0, 1]),            # 0 to 1, no way back
             (2, [1, 0, 1, 1]),            # 1 to 0, no way there
             (3, [0, 1, 0, 1, 0, 0, 0, 1, 0]),      # nothing goes to 2
             (3, [0, 1, 1, 1, 0, 0, 0, 0, 100]),    # nothing leaves 2
             (4, [0, 1, 0, 0, 1, 0, 0, 0, 0, 0, 0, 1, 0, 0, 1, 0]),      # two pairs
             (4, [0, 1, 0, 0, 1, 0, 1, 0, 0, 0, 0, 1, 0, 0, 1, 0]),      # two pairs, one way between them
             (5, [0, 1, 0, 0, 0, 0, 0, 1, 0, 0, 0, 0, 0, 1, 0, 0, 0, 0, 0, 1, 0, 0, 0, 0, 1]),    # a ring cut open
             (5, [100 if i == j else 0 for i in range(5) for j in range(5)])]

    def test_places_apart(self):
        for n, weights in self.APART:
            for s in range(2 ** n):
                self.assertEqual(takes(n, 1, 1, s, weights), NOT_JOINED)
                self.assertEqual(takes(n, 100, 1, s, weights), NOT_JOINED)

    def test_one_weight_joins_them(self):
        self.assertTrue(answered(takes(4, 1, 1, 1, [0, 1, 0, 0, 1, 0, 1, 0, 0, 0, 0, 1, 1, 0, 1, 0])))
        ring = [0, 1, 0, 0, 0, 0, 0, 1, 0, 0, 0, 0, 0, 1, 0, 0, 0, 0, 0, 1, 1, 0, 0, 0, 0]
        self.assertTrue(answered(takes(5, 1, 1, 1, ring)))
        # The ring the other way round: its ways go from high numbers to low ones.
        back = [ring[5 * j + i] for i in range(5) for j in range(5)]
        self.assertTrue(answered(takes(5, 1, 1, 1, back)))

    def test_every_pattern_of_three_places(self):
        # A way between two of three places has one step, or two by way of the third.
        for pattern in range(2 ** 9):
            weights = [pattern >> k & 1 for k in range(9)]
            self.assertEqual(takes(3, 1, 1, 1, weights)[0], self.expected(weights))

    def expected(self, weights):
        if any(sum(weights[3 * i:3 * i + 3]) == 0 for i in range(3)):
            return -1
        for i, j, k in [(0, 1, 2), (0, 2, 1), (1, 0, 2), (1, 2, 0), (2, 0, 1), (2, 1, 0)]:
            if not (weights[3 * i + j] or weights[3 * i + k] and weights[3 * k + j]):
                return -2
        return 0

    def test_minus_one_is_looked_at_first(self):
        for n, weights in self.APART:
            self.assertEqual(takes(n, 0, 1, 1, weights), REFUSED)
            self.assertEqual(takes(n, 1, 101, 1, weights), REFUSED)
            self.assertEqual(takes(n, 1, 1, -1, weights), REFUSED)
            self.assertEqual(takes(n, 1, 1, 2 ** n, weights), REFUSED)
            self.assertEqual(takes(n, 1, 1, 1, weights + [1]), REFUSED)
            self.assertEqual(takes(n, 1, 1, 1, weights[:-1]), REFUSED)
            self.assertEqual(takes(n, 1, 1, 1, [101 if weight else 0 for weight in weights]), REFUSED)
            self.assertEqual(takes(n, 1, 1, 1, [weight or -1 for weight in weights]), REFUSED)
        # A row of zeros, so that no way leads from there.
        self.assertEqual(takes(3, 1, 1, 1, [0, 1, 0, 1, 0, 0, 0, 0, 0]), REFUSED)
        # n that is out of bounds, with places apart.
        self.assertEqual(takes(6, 1, 1, 1, [1 if k % 7 == 0 else 0 for k in range(36)]), REFUSED)


class PlainAnswers(unittest.TestCase):
    def test_a_refusal_is_a_list_of_one_whole_number(self):
        for answer in (takes(1, 1, 1, 1, [1]), takes(2, 1, 1, 1, [1, 0, 0, 1])):
            self.assertIs(type(answer), list)
            self.assertEqual([type(number) for number in answer], [int])


if __name__ == '__main__':
    unittest.main()
