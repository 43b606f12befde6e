import random
import unittest
from fractions import Fraction

import chances
from samples import PATH_OF_3, RING_OF_3, RING_OF_5, STAR_OF_4, UNEVEN, UNEVEN_4, UNEVEN_5, full, random_weights
from takeover.places import mean, takes


class ByHand(unittest.TestCase):
    def check(self, n, a, b, weights, millionths):
        self.assertEqual(mean(n, a, b, weights), [0, millionths])

    def test_two_places(self):
        # Place 0 breeds into place 1 always, place 1 into place 0 one time in four.
        weights = [0, 1, 1, 3]
        self.check(2, 1, 1, weights, 500000)
        # 6/7 from place 0 and 3/11 from place 1: 87/154.
        self.check(2, 3, 2, weights, 564935)
        # 2 against 3/4, that is 8/11; and 1/2 against 3, that is 1/7: 67/154.
        self.check(2, 2, 3, weights, 435064)

    def test_ring_of_three(self):
        self.check(3, 2, 1, RING_OF_3, 571428)
        self.check(3, 1, 2, RING_OF_3, 142857)
        self.check(3, 1, 1, RING_OF_3, 333333)

    def test_path_of_three(self):
        # With twice the strength 2/3 from an end and 5/12 from the middle: 7/12.
        self.check(3, 2, 1, PATH_OF_3, 583333)
        # With half of it, from an end x, the middle y, an end and the middle z:
        # 2x = z, 5y = z, 5/2 z = 1/2 + 2x. So z = 1/3, x = 1/6, y = 1/15: 2/15.
        self.check(3, 1, 2, PATH_OF_3, 133333)

    def test_five_places_alike(self):
        # Twice the strength: 1/2 of 31/32, that is 16/31.
        self.check(5, 2, 1, full(5), 516129)
        self.check(5, 1, 2, full(5), 32258)


class BySteps(unittest.TestCase):
    def check(self, n, a, b, weights):
        by_steps = chances.chances_by_steps(n, a, b, weights)
        expected = sum(by_steps[2 ** i] for i in range(n)) / n
        with self.subTest(n=n, a=a, b=b, weights=weights):
            self.assertEqual(mean(n, a, b, weights), [0, chances.downwards(expected)])

    def test_fixed_weights(self):
        for a, b in [(1, 1), (2, 1), (1, 2), (99, 100), (1, 100), (100, 1), (37, 37)]:
            for n, weights in UNEVEN + [(3, RING_OF_3), (3, PATH_OF_3), (4, STAR_OF_4)]:
                self.check(n, a, b, weights)

    def test_greatest_numbers(self):
        self.check(5, 97, 89, [100 - k % 7 for k in range(25)])
        self.check(5, 100, 100, [100] * 25)
        self.check(5, 100, 1, [100 if i != j else 0 for i in range(5) for j in range(5)])

    def test_random_weights(self):
        source = random.Random(3)
        for n, rounds in [(2, 100), (3, 100), (4, 30), (5, 6)]:
            for k in range(rounds):
                weights = random_weights(source, n, source.choice([1, 3, 100]))
                self.check(n, source.randint(1, 100), source.randint(1, 100), weights)


class ByFormulas(unittest.TestCase):
    def test_two_places(self):
        numbers = (0, 1, 2, 99, 100)
        for weights in [[i, j, k, m] for i in numbers for j in numbers[1:] for k in numbers[1:] for m in numbers]:
            for a, b in [(1, 1), (1, 100), (100, 1), (100, 100), (3, 2)]:
                expected = sum(chances.chance_of_two(a, b, s, weights) for s in (1, 2)) / 2
                self.assertEqual(mean(2, a, b, weights), [0, chances.downwards(expected)])

    def test_even_heat(self):
        for n, weights in [(3, RING_OF_3), (5, RING_OF_5)] + [(n, full(n)) for n in (2, 3, 4, 5)]:
            for a, b in [(1, 1), (3, 2), (2, 3), (100, 1), (1, 100), (100, 99)]:
                expected = chances.chance_of_even_heat(n, a, b, 1)
                self.assertEqual(mean(n, a, b, weights), [0, chances.downwards(expected)])

    def test_equal_kinds(self):
        # One of the n places is the one whose kind wins in the end, so that their chances have the sum 1.
        source = random.Random(4)
        for n in (2, 3, 4, 5):
            for a in (1, 100):
                weights = random_weights(source, n, 100)
                self.assertEqual(mean(n, a, a, weights), [0, 1000000 // n])


class Edges(unittest.TestCase):
    def mean_of_told(self, n, a, b, weights):
        return Fraction(sum(takes(n, a, b, 2 ** i, weights)[1] for i in range(n)), n)

    def test_exact_till_it_is_told(self):
        # 583333 and a third, where the three told ones are 666666, 416666, 666666.
        self.assertEqual(mean(3, 2, 1, PATH_OF_3), [0, 583333])
        self.assertEqual(self.mean_of_told(3, 2, 1, PATH_OF_3), 583332 + Fraction(2, 3))
        for n, weights, told in [(4, UNEVEN_4, 250000), (5, UNEVEN_5, 200000)]:
            self.assertEqual(mean(n, 1, 1, weights), [0, told])
            self.assertLess(self.mean_of_told(n, 1, 1, weights), told)

    def test_downwards(self):
        # 2/3 of a millionth is left out.
        self.assertEqual(mean(2, 2, 1, full(2)), [0, 666666])

    def test_least_and_greatest(self):
        self.assertEqual(mean(5, 1, 100, full(5)), [0, 0])
        self.assertEqual(mean(2, 1, 100, full(2)), [0, 9900])
        self.assertEqual(mean(2, 100, 1, full(2)), [0, 990099])
        self.assertEqual(mean(5, 100, 1, full(5)), [0, 990000])

    def test_weights_to_itself(self):
        # Where all places keep the same share to themselves, nothing but the time changes.
        patient = [100 if i == j else RING_OF_5[5 * i + j] for i in range(5) for j in range(5)]
        self.assertEqual(mean(5, 4, 3, patient), mean(5, 4, 3, RING_OF_5))
        # Place 0 keeps 99 of 100 to itself: from there 1/100 against 100, from place 1 it's 1 against 1/100 of 100.
        self.assertEqual(mean(2, 1, 100, [99, 1, 1, 0]), [0, 250049])

    def test_answer_is_a_list_of_whole_numbers(self):
        for n, weights in UNEVEN:
            answer = mean(n, 2, 1, weights)
            self.assertIs(type(answer), list)
            self.assertEqual([type(number) for number in answer], [int, int])


if __name__ == '__main__':
    unittest.main()
