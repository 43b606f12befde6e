import random
import unittest
from fractions import Fraction

import chances
from samples import (PATH_OF_3, RING_OF_3, RING_OF_5, STAR_OF_4, UNEVEN_3, UNEVEN_4, UNEVEN_5, full,
                     random_weights)
from takeover.places import takes


class ByHand(unittest.TestCase):
    def check(self, n, a, b, s, weights, millionths):
        self.assertEqual(takes(n, a, b, s, weights), [0, millionths])

    def test_two_places(self):
        # Place 0 breeds into place 1 always, place 1 into place 0 one time in four.
        weights = [0, 1, 1, 3]
        self.check(2, 1, 1, 1, weights, 800000)
        self.check(2, 1, 1, 2, weights, 200000)
        # 3 against 1/4 of 2, that is 6 of 7 parts; and 3/4 against 2, that is 3 of 11 parts.
        self.check(2, 3, 2, 1, weights, 857142)
        self.check(2, 3, 2, 2, weights, 272727)

    def test_ring_of_three(self):
        # One place of the ring: 4/7 with twice the strength, 1/7 with half of it. Two: 6/7 and 3/7.
        for s in (1, 2, 4):
            self.check(3, 2, 1, s, RING_OF_3, 571428)
            self.check(3, 1, 2, s, RING_OF_3, 142857)
        for s in (3, 5, 6):
            self.check(3, 2, 1, s, RING_OF_3, 857142)
            self.check(3, 1, 2, s, RING_OF_3, 428571)

    def test_path_of_three_with_equal_kinds(self):
        # The middle has the heat 2, an end 1/2. An end's share is 2/5, the middle's 1/5 (an end: 1/2 x = 1 y).
        self.check(3, 1, 1, 1, PATH_OF_3, 400000)
        self.check(3, 1, 1, 2, PATH_OF_3, 200000)
        self.check(3, 1, 1, 4, PATH_OF_3, 400000)
        self.check(3, 7, 7, 5, PATH_OF_3, 800000)
        self.check(3, 7, 7, 3, PATH_OF_3, 600000)

    def test_path_of_three_with_a_fitter_kind(self):
        # a = 2, b = 1. The chances: from an end x, the middle y, an end and the middle z, both ends v.
        # x: the end wins the middle with 2, the middle takes the end with 1/2:        5/2 x = 2z.
        # y: the middle wins each end with 1, each end takes the middle with 1:        4y = 2z.
        # z: the middle wins the other end with 1, that end takes the middle with 1:   2z = 1 + x.
        # v: each end wins the middle with 2, the middle takes each end with 1/2:      5v = 4 + x.
        # So z = 5/6, x = 2/3, y = 5/12, v = 14/15.
        self.check(3, 2, 1, 1, PATH_OF_3, 666666)
        self.check(3, 2, 1, 4, PATH_OF_3, 666666)
        self.check(3, 2, 1, 2, PATH_OF_3, 416666)
        self.check(3, 2, 1, 3, PATH_OF_3, 833333)
        self.check(3, 2, 1, 6, PATH_OF_3, 833333)
        self.check(3, 2, 1, 5, PATH_OF_3, 933333)

    def test_star_of_four_with_equal_kinds(self):
        # The centre has the heat 3, a leaf 1/3: a leaf's share is 3/10, the centre's 1/10.
        self.check(4, 5, 5, 1, STAR_OF_4, 100000)
        self.check(4, 5, 5, 2, STAR_OF_4, 300000)
        self.check(4, 5, 5, 9, STAR_OF_4, 400000)
        self.check(4, 5, 5, 14, STAR_OF_4, 900000)

    def test_five_places_alike(self):
        self.check(5, 1, 1, 16, full(5), 200000)
        self.check(5, 1, 1, 21, full(5), 600000)
        # Twice the strength: 1/2 of 31/32, that is 16/31; from two places 24/31.
        self.check(5, 2, 1, 4, full(5), 516129)
        self.check(5, 2, 1, 10, full(5), 774193)

    def test_strengths_alone_in_their_ratio(self):
        for s in range(16):
            self.assertEqual(takes(4, 3, 2, s, UNEVEN_4), takes(4, 60, 40, s, UNEVEN_4))

    def test_row_of_its_own_scale(self):
        # A row ten times as great means the same chances.
        scaled = PATH_OF_3[:3] + [10 * weight for weight in PATH_OF_3[3:6]] + PATH_OF_3[6:]
        for s in range(8):
            self.assertEqual(takes(3, 5, 4, s, scaled), takes(3, 5, 4, s, PATH_OF_3))


class BySteps(unittest.TestCase):
    def check_all_sets(self, n, a, b, weights):
        expected = chances.chances_by_steps(n, a, b, weights)
        for s in range(2 ** n):
            with self.subTest(n=n, a=a, b=b, s=s, weights=weights):
                self.assertEqual(takes(n, a, b, s, weights), [0, chances.downwards(expected[s])])

    def test_fixed_weights(self):
        for a, b in [(1, 1), (2, 1), (1, 2), (99, 100), (1, 100), (100, 1), (37, 37)]:
            self.check_all_sets(2, a, b, [5, 1, 100, 0])
            self.check_all_sets(3, a, b, RING_OF_3)
            self.check_all_sets(3, a, b, PATH_OF_3)
            self.check_all_sets(3, a, b, UNEVEN_3)
            self.check_all_sets(4, a, b, STAR_OF_4)
            self.check_all_sets(4, a, b, UNEVEN_4)

    def test_five_places(self):
        self.check_all_sets(5, 1, 1, UNEVEN_5)
        self.check_all_sets(5, 13, 11, UNEVEN_5)
        self.check_all_sets(5, 1, 100, UNEVEN_5)
        self.check_all_sets(5, 100, 1, RING_OF_5)

    def test_greatest_numbers(self):
        self.check_all_sets(5, 97, 89, [100 - k % 7 for k in range(25)])
        self.check_all_sets(5, 100, 100, [100] * 25)

    def test_random_weights(self):
        source = random.Random(1)
        for n, rounds in [(2, 100), (3, 100), (4, 30), (5, 4)]:
            for k in range(rounds):
                weights = random_weights(source, n, source.choice([1, 3, 100]))
                self.check_all_sets(n, source.randint(1, 100), source.randint(1, 100), weights)


class ByFormulas(unittest.TestCase):
    def test_all_small_cases_of_two_places(self):
        numbers = (0, 1, 2, 99, 100)
        for first in numbers:
            for last in numbers:
                for there in numbers[1:]:
                    for back in numbers[1:]:
                        self.check_two_places([first, there, back, last])

    def check_two_places(self, weights):
        for a in (1, 2, 100):
            for b in (1, 3, 100):
                for s in (1, 2):
                    expected = chances.chance_of_two(a, b, s, weights)
                    self.assertEqual(takes(2, a, b, s, weights), [0, chances.downwards(expected)])

    def test_even_heat(self):
        rings = [(2, [0, 1, 1, 0]), (3, RING_OF_3), (5, RING_OF_5)]
        for n, weights in rings + [(n, full(n)) for n in (2, 3, 4, 5)]:
            for a, b in [(1, 1), (3, 2), (2, 3), (100, 1), (1, 100), (100, 99)]:
                for s in range(2 ** n):
                    expected = chances.chance_of_even_heat(n, a, b, bin(s).count('1'))
                    self.assertEqual(takes(n, a, b, s, weights), [0, chances.downwards(expected)])

    def test_equal_kinds(self):
        source = random.Random(2)
        for n in (2, 3, 4, 5):
            for k in range(8):
                weights = random_weights(source, n, source.choice([2, 100]))
                expected = chances.chances_of_equal_kinds(n, weights)
                for s in range(2 ** n):
                    self.assertEqual(takes(n, 9, 9, s, weights), [0, chances.downwards(expected[s])])


class Edges(unittest.TestCase):
    def test_nothing_and_everything(self):
        for n, weights in [(2, [0, 1, 1, 0]), (3, UNEVEN_3), (4, UNEVEN_4), (5, UNEVEN_5)]:
            for a, b in [(1, 1), (1, 100), (100, 1), (100, 100)]:
                self.assertEqual(takes(n, a, b, 0, weights), [0, 0])
                self.assertEqual(takes(n, a, b, 2 ** n - 1, weights), [0, 1000000])

    def test_downwards(self):
        self.assertEqual(takes(3, 1, 1, 1, full(3)), [0, 333333])
        self.assertEqual(takes(3, 1, 1, 3, full(3)), [0, 666666])

    def test_just_below_one_and_just_above_zero(self):
        # 1 - 10^-8 and 10^-8, but for what is far smaller.
        self.assertEqual(takes(5, 100, 1, 15, full(5)), [0, 999999])
        self.assertEqual(takes(5, 1, 100, 1, full(5)), [0, 0])

    def test_small_shares_of_two_places(self):
        # 1/101; then 1/10001, where place 0 keeps 99 of 100 to itself; and the rest of that.
        self.assertEqual(takes(2, 1, 100, 1, full(2)), [0, 9900])
        self.assertEqual(takes(2, 1, 100, 1, [99, 1, 1, 0]), [0, 99])
        self.assertEqual(takes(2, 100, 1, 2, [99, 1, 1, 0]), [0, 999900])

    def test_weights_to_itself(self):
        lazy = [99, 1, 0, 0, 1, 99, 1, 0, 1]
        expected = chances.chances_by_steps(3, 2, 3, lazy)
        self.assertEqual([takes(3, 2, 3, s, lazy)[1] for s in range(8)], [chances.downwards(x) for x in expected])
        # Where all places keep the same share to themselves, nothing but the time changes.
        patient = [100 if i == j else RING_OF_5[5 * i + j] for i in range(5) for j in range(5)]
        for s in range(32):
            self.assertEqual(takes(5, 4, 3, s, patient), takes(5, 4, 3, s, RING_OF_5))

    def test_answer_is_a_list_of_whole_numbers(self):
        for s in range(8):
            answer = takes(3, 2, 1, s, UNEVEN_3)
            self.assertIs(type(answer), list)
            self.assertEqual([type(number) for number in answer], [int, int])


class OtherWaysAgree(unittest.TestCase):
    """The three ways of the tests, held against one another."""

    def test_steps_and_formulas(self):
        by_steps = chances.chances_by_steps(4, 3, 2, full(4))
        for s in range(16):
            self.assertEqual(by_steps[s], chances.chance_of_even_heat(4, 3, 2, bin(s).count('1')))
        self.assertEqual(chances.chances_by_steps(4, 1, 1, UNEVEN_4), chances.chances_of_equal_kinds(4, UNEVEN_4))
        weights = [1, 2, 3, 4]
        self.assertEqual(chances.chances_by_steps(2, 5, 6, weights)[2], chances.chance_of_two(5, 6, 2, weights))
        self.assertEqual(chances.chances_by_steps(3, 2, 1, PATH_OF_3)[2], Fraction(5, 12))


if __name__ == '__main__':
    unittest.main()
