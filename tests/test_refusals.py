"""The refusals, which are the same for all functions that are handed the same arguments."""

import unittest

from samples import APART
from takeover.places import best, heats, lasts, mean, takes

LEAST = -2147483648
GREATEST = 2147483647
REFUSED = [-1]
NOT_JOINED = [-2]


class Checks:
    """A function is asked with all arguments at hand, and takes those that it knows."""

    def assert_refused(self, answer):
        self.assertEqual(answer, REFUSED)
        self.assert_plain(answer)

    def assert_apart(self, n, answer):
        self.assertEqual(answer, NOT_JOINED)
        self.assert_plain(answer)

    def assert_plain(self, answer):
        self.assertIs(type(answer), list)
        self.assertEqual({type(number) for number in answer}, {int})

    def assert_answered(self, n, answer):
        self.assert_plain(answer)
        self.assertEqual((len(answer), answer[0]), (2, 0))
        self.assertGreaterEqual(answer[1], 0)
        self.assertLessEqual(answer[1], 1000000)


class WrongWeights(Checks):
    def test_n(self):
        for n in (2, 3, 4, 5):
            self.assert_answered(n, self.ask(n, [1] * (n * n)))
        for n in (LEAST, -46341, -6, -5, -3, -2, -1, 0, 1, 6, 7, 40, 65536, GREATEST):
            for count in (0, 1, 4, 9, 16, 25, 36, 40):
                self.assert_refused(self.ask(n, [1] * count))
        # There are as many weights as the number asks for, and s is within its sets: n itself is refused.
        self.assert_refused(self.ask(0, [], s=0))
        self.assert_refused(self.ask(1, [1], s=1))
        self.assert_refused(self.ask(6, [1] * 36, s=1))
        self.assert_refused(self.ask(-2, [1] * 4, s=0))

    def test_count_of_weights(self):
        for n in (2, 3, 4, 5):
            for count in range(41):
                answer = self.ask(n, [1] * count, a=2)
                if count == n * n:
                    self.assert_answered(n, answer)
                else:
                    self.assert_refused(answer)

    def test_each_weight(self):
        for n in (2, 5):
            for k in range(n * n):
                weights = [1] * (n * n)
                for number in (LEAST, -101, -2, -1, 101, 102, GREATEST):
                    weights[k] = number
                    self.assert_refused(self.ask(n, weights))
                for number in (0, 1, 99, 100):
                    weights[k] = number
                    # Of two places, a 0 between them leaves no way, and so is refused with another number.
                    if n == 2 and number == 0 and k in (1, 2):
                        self.assert_apart(n, self.ask(n, weights))
                    else:
                        self.assert_answered(n, self.ask(n, weights))

    def test_weights_that_make_up_for_one_another(self):
        # The row's sum is fine, a weight of it isn't.
        self.assert_refused(self.ask(2, [-1, 2, 1, 0]))
        self.assert_refused(self.ask(2, [1, 1, LEAST, GREATEST]))

    def test_sum_of_a_row(self):
        for n in (2, 3, 4, 5):
            for i in range(n):
                weights = [1] * (n * n)
                weights[i * n:i * n + n] = [0] * n
                self.assert_refused(self.ask(n, weights))
                weights[i * n + (i + 1) % n] = 1
                self.assert_answered(n, self.ask(n, weights))
            self.assert_refused(self.ask(n, [0] * (n * n)))

    def test_column_of_zeros_is_no_row(self):
        # Nothing goes to place 0: the rows are fine, the places aren't joined.
        self.assert_apart(2, self.ask(2, [0, 1, 0, 1]))

    def test_all_at_once(self):
        self.assert_refused(self.ask(LEAST, [LEAST] * 40, GREATEST, LEAST, GREATEST))
        self.assert_refused(self.ask(GREATEST, [GREATEST] * 40, LEAST, GREATEST, LEAST))
        self.assert_refused(self.ask(GREATEST, [], LEAST, GREATEST, LEAST))

    def test_places_apart(self):
        for n, weights in APART:
            for s in range(2 ** n):
                self.assert_apart(n, self.ask(n, weights, s=s))
                self.assert_apart(n, self.ask(n, weights, a=100, s=s))

    def test_wrong_weights_and_places_apart(self):
        for n, weights in APART:
            self.assert_refused(self.ask(n, weights + [1]))
            self.assert_refused(self.ask(n, weights[:-1]))
            self.assert_refused(self.ask(n, [101 if weight else 0 for weight in weights]))
            self.assert_refused(self.ask(n, [weight or -1 for weight in weights]))
        # A row of zeros, so that no way leads from there.
        self.assert_refused(self.ask(3, [0, 1, 0, 1, 0, 0, 0, 0, 0]))
        # n that is out of bounds, with places apart.
        self.assert_refused(self.ask(6, [1 if k % 7 == 0 else 0 for k in range(36)]))
        self.assert_refused(self.ask(1, [1]))


class WrongStrengths(Checks):
    def test_a_and_b(self):
        for number in (LEAST, -100, -1, 0, 101, 102, GREATEST):
            self.assert_refused(self.ask(2, [0, 1, 1, 0], a=number))
            self.assert_refused(self.ask(2, [0, 1, 1, 0], b=number))
            self.assert_refused(self.ask(2, [0, 1, 1, 0], a=number, b=number))
        for number in (1, 2, 99, 100):
            self.assert_answered(2, self.ask(2, [0, 1, 1, 0], a=number))
            self.assert_answered(2, self.ask(2, [0, 1, 1, 0], b=number))
            self.assert_answered(2, self.ask(2, [0, 1, 1, 0], a=number, b=number))

    def test_wrong_strengths_and_places_apart(self):
        for n, weights in APART:
            self.assert_refused(self.ask(n, weights, a=0))
            self.assert_refused(self.ask(n, weights, a=101))
            self.assert_refused(self.ask(n, weights, b=0))
            self.assert_refused(self.ask(n, weights, b=101))

    def test_one_weight_joins_them(self):
        self.assert_answered(4, self.ask(4, [0, 1, 0, 0, 1, 0, 1, 0, 0, 0, 0, 1, 1, 0, 1, 0]))
        ring = [0, 1, 0, 0, 0, 0, 0, 1, 0, 0, 0, 0, 0, 1, 0, 0, 0, 0, 0, 1, 1, 0, 0, 0, 0]
        self.assert_answered(5, self.ask(5, ring))
        # The ring the other way round: its ways go from high numbers to low ones.
        back = [ring[5 * j + i] for i in range(5) for j in range(5)]
        self.assert_answered(5, self.ask(5, back))

    def test_every_pattern_of_three_places(self):
        # A way between two of three places has one step, or two by way of the third.
        for pattern in range(2 ** 9):
            weights = [pattern >> k & 1 for k in range(9)]
            answer = self.ask(3, weights)
            if any(sum(weights[3 * i:3 * i + 3]) == 0 for i in range(3)):
                self.assert_refused(answer)
            elif self.three_are_joined(weights):
                self.assert_answered(3, answer)
            else:
                self.assert_apart(3, answer)

    def three_are_joined(self, weights):
        for i, j, k in [(0, 1, 2), (0, 2, 1), (1, 0, 2), (1, 2, 0), (2, 0, 1), (2, 1, 0)]:
            if not (weights[3 * i + j] or weights[3 * i + k] and weights[3 * k + j]):
                return False
        return True


class WrongStart(Checks):
    def test_s(self):
        for n in (2, 3, 4, 5):
            weights = [1] * (n * n)
            for s in (LEAST, -2 ** n, -2, -1, 2 ** n, 2 ** n + 1, 32, 64, GREATEST):
                self.assert_refused(self.ask(n, weights, s=s))
            for s in range(2 ** n):
                self.assert_answered(n, self.ask(n, weights, s=s))

    def test_a_and_b_where_the_answer_needs_neither(self):
        for s in (0, 3):
            self.assert_refused(self.ask(2, [0, 1, 1, 0], a=0, s=s))
            self.assert_refused(self.ask(2, [0, 1, 1, 0], b=101, s=s))

    def test_wrong_start_and_places_apart(self):
        for n, weights in APART:
            self.assert_refused(self.ask(n, weights, s=-1))
            self.assert_refused(self.ask(n, weights, s=2 ** n))


class Takes(WrongWeights, WrongStrengths, WrongStart, unittest.TestCase):
    def ask(self, n, weights, a=1, b=1, s=1):
        return takes(n, a, b, s, weights)


class Mean(WrongWeights, WrongStrengths, unittest.TestCase):
    def ask(self, n, weights, a=1, b=1, s=1):
        return mean(n, a, b, weights)


class Lasts(WrongWeights, WrongStrengths, WrongStart, unittest.TestCase):
    def ask(self, n, weights, a=1, b=1, s=1):
        return lasts(n, a, b, s, weights)

    def assert_answered(self, n, answer):
        self.assert_plain(answer)
        self.assertEqual((len(answer), answer[0]), (2, 0))
        self.assertGreaterEqual(answer[1], 0)


class Heats(WrongWeights, unittest.TestCase):
    def ask(self, n, weights, a=1, b=1, s=1):
        return heats(n, weights)

    def assert_answered(self, n, answer):
        self.assert_plain(answer)
        self.assertEqual(len(answer), n + 1)
        self.assertIn(answer[0], (0, 1))
        self.assertTrue(all(0 <= heat <= n * 1000000 for heat in answer[1:]))

    def assert_apart(self, n, answer):
        self.assert_answered(n, answer)


class Best(WrongWeights, WrongStrengths, unittest.TestCase):
    def ask(self, n, weights, a=1, b=1, s=1):
        return best(n, a, b, weights)

    def assert_answered(self, n, answer):
        self.assert_plain(answer)
        self.assertEqual(len(answer), 1)
        self.assertIn(answer[0], range(1, 2 ** n))


if __name__ == '__main__':
    unittest.main()
