import random
import unittest
from fractions import Fraction

import chances
from samples import (PATH_OF_3, RING_OF_3, RING_OF_5, SLOW_5, STAR_OF_4, UNEVEN, UNEVEN_3, UNEVEN_4, UNEVEN_5, full,
                     patient_ring, random_weights)
from takeover.places import lasts


class ByHand(unittest.TestCase):
    def check(self, n, a, b, s, weights, millionths):
        self.assertEqual(lasts(n, a, b, s, weights), [0, millionths])

    def test_two_places(self):
        # Each step is a change.
        for a, b in [(1, 1), (1, 100), (100, 1), (3, 2)]:
            for s in (1, 2):
                self.check(2, a, b, s, [0, 1, 1, 0], 1000000)
                # Every other one, and one in 101, goes to the place itself.
                self.check(2, a, b, s, [1, 1, 1, 1], 2000000)
                self.check(2, a, b, s, [100, 1, 1, 100], 101000000)
        # Place 0 breeds into place 1 always, place 1 into place 0 one time in four: a change has the chance 5/8.
        weights = [0, 1, 1, 3]
        self.check(2, 1, 1, 1, weights, 1600000)
        self.check(2, 1, 1, 2, weights, 1600000)
        # 3/5 and 1/4 of 2/5, that is 7/10; 3/4 of 1/5 and 2/5, that is 11/20.
        self.check(2, 3, 2, 1, weights, 1428571)
        self.check(2, 3, 2, 2, weights, 1818181)

    def test_ring_of_three(self):
        # One in three steps is a gain, one a loss, one no change: x = 1 + 1/3 x + 1/3 x.
        for s in range(1, 7):
            self.check(3, 1, 1, s, RING_OF_3, 3000000)

    def test_path_of_three_with_equal_kinds(self):
        # An end and the rest of the places are alike, since the kinds are: x. So are the middle and its rest: y.
        # x: the end wins the middle with 1, the middle takes the end with 1/2, a step is 3:    3/2 x = 3 + x.
        # y: the middle wins each end with 1/2, each end takes the middle with 1:               3y = 3 + x.
        for s in (1, 4, 6, 3):
            self.check(3, 1, 1, s, PATH_OF_3, 6000000)
            self.check(3, 50, 50, s, PATH_OF_3, 6000000)
        for s in (2, 5):
            self.check(3, 1, 1, s, PATH_OF_3, 3000000)

    def test_path_of_three_with_a_fitter_kind(self):
        # a = 2, b = 1. From an end x, the middle y, an end and the middle z, both ends v. With one place of the new
        # kind a step is 4, with two it is 5.
        # 5/2 x = 4 + 2z, 4y = 4 + 2z, 2z = 5 + x, 5v = 5 + x. So x = 6, z = 11/2, y = 15/4, v = 11/5.
        for s, millionths in [(1, 6000000), (4, 6000000), (2, 3750000), (3, 5500000), (6, 5500000), (5, 2200000)]:
            self.check(3, 2, 1, s, PATH_OF_3, millionths)

    def test_star_of_four_with_equal_kinds(self):
        # A leaf x, two leaves y, three leaves z; each of them is alike with its rest of the places.
        # 4/3 x = 4 + y, 8/3 y = 4 + 8/3 x, 4z = 4 + y. So x = 33/2, y = 18, z = 11/2.
        for s in (2, 4, 8, 13, 11, 7):
            self.check(4, 7, 7, s, STAR_OF_4, 16500000)
        for s in (6, 10, 12, 9, 5, 3):
            self.check(4, 7, 7, s, STAR_OF_4, 18000000)
        for s in (14, 1):
            self.check(4, 7, 7, s, STAR_OF_4, 5500000)

    def test_five_places_alike(self):
        # From one place 4 times 1 + 1/2 + 1/3 + 1/4, that is 25/3.
        for s in (1, 2, 4, 8, 16):
            self.check(5, 1, 1, s, full(5), 8333333)
            self.check(5, 1, 1, 31 - s, full(5), 8333333)


class ByStepsAndVisits(unittest.TestCase):
    def check_all_sets(self, n, a, b, weights):
        expected = chances.steps_by_steps(n, a, b, weights)
        for s in range(2 ** n):
            with self.subTest(n=n, a=a, b=b, s=s, weights=weights):
                self.assertEqual(lasts(n, a, b, s, weights), [0, chances.downwards(expected[s])])

    def test_fixed_weights(self):
        for a, b in [(1, 1), (2, 1), (1, 2), (99, 100), (1, 100), (100, 1), (37, 37)]:
            for n, weights in UNEVEN[:3] + [(3, RING_OF_3), (3, PATH_OF_3), (4, STAR_OF_4)]:
                self.check_all_sets(n, a, b, weights)

    def test_five_places(self):
        self.check_all_sets(5, 1, 1, UNEVEN_5)
        self.check_all_sets(5, 13, 11, UNEVEN_5)
        self.check_all_sets(5, 1, 100, UNEVEN_5)
        self.check_all_sets(5, 100, 1, RING_OF_5)

    def test_greatest_numbers(self):
        self.check_all_sets(5, 97, 89, [100 - k % 7 for k in range(25)])
        self.check_all_sets(5, 100, 100, [100] * 25)

    def test_random_weights(self):
        source = random.Random(6)
        for n, rounds in [(2, 100), (3, 100), (4, 30), (5, 4)]:
            for k in range(rounds):
                weights = random_weights(source, n, source.choice([1, 3, 100]))
                self.check_all_sets(n, source.randint(1, 100), source.randint(1, 100), weights)

    def test_visits(self):
        for n, weights in UNEVEN + [(5, SLOW_5)]:
            for a, b, s in [(1, 1, 1), (100, 1, 2), (1, 100, 2 ** n - 2), (5, 7, 2)]:
                expected = chances.steps_by_visits(n, a, b, s, weights)
                self.assertEqual(lasts(n, a, b, s, weights), [0, chances.downwards(expected)])


class ByFormulas(unittest.TestCase):
    def test_two_places(self):
        numbers = (0, 1, 2, 99, 100)
        for weights in [[i, j, k, m] for i in numbers for j in numbers[1:] for k in numbers[1:] for m in numbers]:
            for a, b in [(1, 1), (1, 100), (100, 1), (100, 100), (3, 2)]:
                for s in (1, 2):
                    expected = chances.steps_of_two(a, b, s, weights)
                    self.assertEqual(lasts(2, a, b, s, weights), [0, chances.downwards(expected)])

    def test_all_alike(self):
        for n in (2, 3, 4, 5):
            for a, b in [(1, 1), (3, 2), (2, 3), (100, 1), (1, 100), (100, 99)]:
                for s in range(1, 2 ** n - 1):
                    expected = chances.steps_of_all_alike(n, a, b, bin(s).count('1'))
                    self.assertEqual(lasts(n, a, b, s, full(n)), [0, chances.downwards(expected)])

    def test_the_kinds_change_places(self):
        for n, weights in UNEVEN[:3]:
            for s in range(2 ** n):
                self.assertEqual(lasts(n, 5, 3, s, weights), lasts(n, 3, 5, 2 ** n - 1 - s, weights))


class Edges(unittest.TestCase):
    def test_one_kind_already(self):
        for n, weights in UNEVEN + [(5, SLOW_5), (2, [0, 1, 1, 0])]:
            for a, b in [(1, 1), (1, 100), (100, 1), (100, 100)]:
                self.assertEqual(lasts(n, a, b, 0, weights), [0, 0])
                self.assertEqual(lasts(n, a, b, 2 ** n - 1, weights), [0, 0])

    def test_downwards(self):
        # A change has the chance 3/5, then 9/10, then 3/4.
        self.assertEqual(lasts(2, 1, 1, 1, [2, 3, 3, 2]), [0, 1666666])
        self.assertEqual(lasts(2, 1, 1, 1, [0, 1, 4, 1]), [0, 1111111])
        self.assertEqual(lasts(2, 1, 1, 1, [0, 1, 1, 1]), [0, 1333333])

    def test_weights_to_itself_make_the_steps_more(self):
        # Each place keeps 5 of 6, so that just one in six steps is as it was without.
        patient = [25 if i == j else RING_OF_5[5 * i + j] for i in range(5) for j in range(5)]
        at_first = chances.steps_by_steps(5, 4, 3, RING_OF_5)
        for s in range(32):
            self.assertEqual(lasts(5, 4, 3, s, patient), [0, chances.downwards(6 * at_first[s])])

    def test_steps_that_breed_into_the_same_kind_count(self):
        # Three changes are to be expected, since the count goes up and down alike, from 3 till it is 0 or 4. The other
        # steps, two and a half, breed into the same kind, as no place breeds into itself.
        self.assertEqual(lasts(4, 1, 1, 7, full(4)), [0, 5500000])
        self.assertEqual(chances.steps_of_all_alike(4, 1, 1, 3), Fraction(11, 2))

    def test_great_answers(self):
        for n in (2, 3, 4, 5):
            for a, b in [(1, 100), (100, 1)]:
                expected = chances.steps_by_steps(n, a, b, patient_ring(n))
                for s in range(1, 2 ** n - 1):
                    answer = lasts(n, a, b, s, patient_ring(n))
                    self.assertEqual(answer, [0, chances.downwards(expected[s])])
                    self.assertGreater(answer[1], 100000000)
        self.assertEqual(lasts(5, 1, 1, 1, patient_ring(5)), [0, 1010000000])

    def test_beyond_32_bits(self):
        expected = chances.steps_by_steps(5, 100, 1, SLOW_5)[18]
        self.assertGreater(expected, 6593)
        self.assertEqual(lasts(5, 100, 1, 18, SLOW_5), [0, chances.downwards(expected)])
        self.assertEqual(lasts(5, 100, 1, 18, SLOW_5), [0, 6593038906])

    def test_strengths_alone_in_their_ratio(self):
        for s in range(16):
            self.assertEqual(lasts(4, 3, 2, s, UNEVEN_4), lasts(4, 60, 40, s, UNEVEN_4))

    def test_row_of_its_own_scale(self):
        scaled = PATH_OF_3[:3] + [10 * weight for weight in PATH_OF_3[3:6]] + PATH_OF_3[6:]
        for s in range(8):
            self.assertEqual(lasts(3, 5, 4, s, scaled), lasts(3, 5, 4, s, PATH_OF_3))

    def test_answer_is_a_list_of_whole_numbers(self):
        for s in range(8):
            answer = lasts(3, 2, 1, s, UNEVEN_3)
            self.assertIs(type(answer), list)
            self.assertEqual([type(number) for number in answer], [int, int])


class OtherWaysAgree(unittest.TestCase):
    """The ways of the tests, held against one another."""

    def test_steps_visits_and_formulas(self):
        by_steps = chances.steps_by_steps(4, 3, 2, full(4))
        for s in range(1, 15):
            self.assertEqual(by_steps[s], chances.steps_of_all_alike(4, 3, 2, bin(s).count('1')))
        by_steps = chances.steps_by_steps(4, 3, 2, UNEVEN_4)
        for s in range(1, 15):
            self.assertEqual(by_steps[s], chances.steps_by_visits(4, 3, 2, s, UNEVEN_4))
        weights = [1, 2, 3, 4]
        self.assertEqual(chances.steps_by_steps(2, 5, 6, weights)[2], chances.steps_of_two(5, 6, 2, weights))
        self.assertEqual(chances.steps_by_steps(3, 2, 1, PATH_OF_3)[2], Fraction(15, 4))


if __name__ == '__main__':
    unittest.main()
