import random
import unittest
from fractions import Fraction

import chances
from samples import (ALMOST_EVEN_3, APART, PATH_OF_3, RING_OF_3, RING_OF_5, STAR_OF_4, UNEVEN, full, patient_ring,
                     random_weights)
from takeover.places import heats


class ByHand(unittest.TestCase):
    def check(self, n, weights, *answer):
        self.assertEqual(heats(n, weights), list(answer))

    def test_two_places(self):
        self.check(2, [0, 1, 1, 0], 1, 1000000, 1000000)
        self.check(2, [1, 0, 0, 1], 1, 1000000, 1000000)
        # 0 and 1/4 go to place 0, 1 and 3/4 to place 1.
        self.check(2, [0, 1, 1, 3], 0, 250000, 1750000)
        # 1/3 and 1; 2/3 and 0.
        self.check(2, [1, 2, 5, 0], 0, 1333333, 666666)

    def test_three_places(self):
        self.check(3, PATH_OF_3, 0, 500000, 2000000, 500000)
        self.check(3, RING_OF_3, 1, 1000000, 1000000, 1000000)
        # 1/3, 0, 1; 2/3, 3/7, 0; 0, 4/7, 0.
        self.check(3, [1, 2, 0, 0, 3, 4, 5, 0, 0], 0, 1333333, 1095238, 571428)

    def test_four_places(self):
        self.check(4, STAR_OF_4, 0, 3000000, 333333, 333333, 333333)
        self.check(4, full(4), 1, 1000000, 1000000, 1000000, 1000000)

    def test_five_places(self):
        # Place 4 breeds into all alike, itself too; the others breed into place 4 alone.
        star = [0, 0, 0, 0, 7, 0, 0, 0, 0, 1, 0, 0, 0, 0, 100, 0, 0, 0, 0, 2, 3, 3, 3, 3, 3]
        self.check(5, star, 0, 200000, 200000, 200000, 200000, 4200000)
        self.check(5, RING_OF_5, 1, 1000000, 1000000, 1000000, 1000000, 1000000)


class ByFractions(unittest.TestCase):
    def check(self, n, weights):
        expected = chances.heats_by_fractions(n, weights)
        even = 1 if all(heat == 1 for heat in expected) else 0
        with self.subTest(n=n, weights=weights):
            self.assertEqual(heats(n, weights), [even] + [chances.downwards(heat) for heat in expected])

    def test_fixed_weights(self):
        for n, weights in UNEVEN + APART + [(3, ALMOST_EVEN_3), (4, STAR_OF_4), (5, patient_ring(5))]:
            self.check(n, weights)

    def test_all_small_weights_of_two_places(self):
        numbers = (0, 1, 2, 3, 99, 100)
        for weights in [[i, j, k, m] for i in numbers for j in numbers for k in numbers for m in numbers]:
            if weights[0] + weights[1] > 0 and weights[2] + weights[3] > 0:
                self.check(2, weights)

    def test_random_weights(self):
        source = random.Random(7)
        for n in (2, 3, 4, 5):
            for k in range(200):
                self.check(n, random_weights(source, n, source.choice([1, 2, 100])))

    def test_greatest_numbers(self):
        self.check(5, [100] * 25)
        self.check(5, [100 - k % 7 for k in range(25)])

    def test_row_of_its_own_scale(self):
        for n, weights in [(3, PATH_OF_3), (5, RING_OF_5)]:
            scaled = [20 * weight for weight in weights[:n]] + weights[n:]
            self.assertEqual(heats(n, scaled), heats(n, weights))


class Edges(unittest.TestCase):
    def test_heat_of_nothing(self):
        self.assertEqual(heats(2, [0, 1, 0, 1]), [0, 0, 2000000])
        self.assertEqual(heats(2, [100, 0, 1, 0]), [0, 2000000, 0])
        self.assertEqual(heats(5, [0, 0, 0, 0, 100] * 5), [0, 0, 0, 0, 0, 5000000])

    def test_least_share(self):
        # 1/401 goes to place 0 from place 1, nothing from the others.
        weights = [0, 1, 0, 0, 0, 1, 100, 100, 100, 100, 0, 0, 1, 0, 0, 0, 0, 0, 1, 0, 0, 0, 0, 0, 1]
        self.assertEqual(heats(5, weights), [0, 2493, 1249376, 1249376, 1249376, 1249376])

    def test_all_heats_are_one_of_shares_that_are_no_whole_millionths(self):
        # Sevenths, thirds and sixths: told one by one, they would have the sum 999999 or less.
        sevenths = [1, 2, 4, 40, 10, 20, 50, 100, 25]
        self.assertEqual(heats(3, sevenths), [1] + [1000000] * 3)
        self.assertEqual(heats(3, [1] * 3 + [7] * 3 + [100] * 3), [1] + [1000000] * 3)
        self.assertEqual(heats(4, full(4)), [1] + [1000000] * 4)
        sixths = [1, 2, 3, 0, 0, 0, 10, 20, 30, 0, 0, 0, 33, 66, 99, 3, 0, 0, 1, 2, 50, 75, 0, 0, 25]
        self.assertEqual(heats(5, sixths), [1] + [1000000] * 5)

    def test_a_bit_off_one(self):
        # Two heats are told as 1000000 and so alike, and yet only one of them is 1.
        bit = Fraction(1, 1025100)
        self.assertEqual(chances.heats_by_fractions(3, ALMOST_EVEN_3), [1 + bit, 1, 1 - bit])
        self.assertEqual(heats(3, ALMOST_EVEN_3), [0, 1000000, 1000000, 999999])

    def test_one_where_all_are_told_as_one(self):
        # All heats have the sum n: where none is below 1, none is above it.
        source = random.Random(8)
        for n in (2, 3):
            for k in range(500):
                answer = heats(n, random_weights(source, n, 2))
                self.assertEqual(answer[0] == 1, answer[1:] == [1000000] * n)

    def test_some_heats_are_one(self):
        # The first, a middle one, the last is 1, the others aren't.
        self.assertEqual(heats(3, [1, 0, 0, 0, 1, 0, 0, 1, 0]), [0, 1000000, 2000000, 0])
        self.assertEqual(heats(3, [1, 0, 0, 0, 1, 0, 1, 0, 0]), [0, 2000000, 1000000, 0])
        self.assertEqual(heats(3, [0, 1, 0, 0, 1, 0, 0, 0, 1]), [0, 0, 2000000, 1000000])

    def test_places_apart(self):
        self.assertEqual(heats(4, [0, 1, 0, 0, 1, 0, 0, 0, 0, 0, 0, 1, 0, 0, 1, 0]), [1] + [1000000] * 4)
        self.assertEqual(heats(3, [0, 1, 0, 1, 0, 0, 0, 1, 0]), [0, 1000000, 2000000, 0])
        self.assertEqual(heats(5, [100 if i == j else 0 for i in range(5) for j in range(5)]), [1] + [1000000] * 5)

    def test_answer_is_a_list_of_whole_numbers(self):
        for n, weights in UNEVEN + [(5, RING_OF_5), (2, [1, 0, 0, 1])]:
            answer = heats(n, weights)
            self.assertIs(type(answer), list)
            self.assertEqual([type(number) for number in answer], [int] * (n + 1))


if __name__ == '__main__':
    unittest.main()
