import random
import unittest

import chances
from samples import (ALMOST_EVEN_3, PATH_OF_3, RING_OF_3, RING_OF_5, SLOW_5, STAR_OF_4, UNEVEN, UNEVEN_5, full,
                     patient_ring, random_weights)
from takeover.places import best, takes

# A ring with some weights of places to themselves: which place is best hangs on the strengths.
LAZY_RING_OF_3 = [1, 1, 0,
                  0, 1, 1,
                  1, 0, 0]


def set_of_greatest(n, chances_of_all):
    from_one = [chances_of_all[2 ** i] for i in range(n)]
    return sum(2 ** i for i in range(n) if from_one[i] == max(from_one))


class ByHand(unittest.TestCase):
    def check(self, n, a, b, weights, places):
        self.assertEqual(best(n, a, b, weights), [places])

    def test_two_places(self):
        # Place 0 breeds into place 1 always, place 1 into place 0 one time in four.
        for a, b in [(1, 1), (3, 2), (1, 100), (100, 1)]:
            self.check(2, a, b, [0, 1, 1, 3], 1)
            self.check(2, a, b, [3, 1, 1, 0], 2)
            self.check(2, a, b, [0, 1, 1, 0], 3)
            # Each keeps two thirds to itself, the rows being of differing sums.
            self.check(2, a, b, [2, 1, 5, 10], 3)

    def test_path_of_three(self):
        # The ends: 2/5 each against 1/5, with twice the strength 2/3 against 5/12, with half of it 1/6 against 1/15.
        for a, b in [(1, 1), (2, 1), (1, 2), (50, 100)]:
            self.check(3, a, b, PATH_OF_3, 5)

    def test_lazy_ring_of_three(self):
        # With equal kinds a place's share times its heat is the mean share of where it breeds into:
        # 3/2 x = (x + y) / 2, y = (y + z) / 2. So the shares are 1/5, 2/5, 2/5.
        self.check(3, 1, 1, LAZY_RING_OF_3, 6)
        self.check(3, 100, 100, LAZY_RING_OF_3, 6)

    def test_star_of_four(self):
        # A leaf's share is 3/10, the centre's 1/10.
        self.check(4, 5, 5, STAR_OF_4, 14)

    def test_all_heats_are_one(self):
        # Where a kind begins does not matter then, only at how many places.
        for a, b in [(1, 1), (2, 1), (1, 100), (100, 1), (99, 100)]:
            self.check(3, a, b, RING_OF_3, 7)
            self.check(3, a, b, [1, 2, 4, 40, 10, 20, 50, 100, 25], 7)
            self.check(5, a, b, RING_OF_5, 31)
            self.check(5, a, b, patient_ring(5), 31)
            for n in (2, 3, 4, 5):
                self.check(n, a, b, full(n), 2 ** n - 1)

    def test_two_bests_of_five(self):
        # Places 0 and 1 breed into place 2 alone, and are bred into by it one time in a hundred; 3 and 4 oftener.
        weights = [0, 0, 1, 0, 0, 0, 0, 1, 0, 0, 1, 1, 0, 49, 49, 0, 0, 1, 0, 0, 0, 0, 1, 0, 0]
        for a, b in [(1, 1), (7, 5), (5, 7)]:
            self.check(5, a, b, weights, 3)


class BySteps(unittest.TestCase):
    def check(self, n, a, b, weights):
        expected = set_of_greatest(n, chances.chances_by_steps(n, a, b, weights))
        with self.subTest(n=n, a=a, b=b, weights=weights):
            self.assertEqual(best(n, a, b, weights), [expected])

    def test_fixed_weights(self):
        for a, b in [(1, 1), (2, 1), (1, 2), (99, 100), (1, 100), (100, 1), (37, 37)]:
            for n, weights in UNEVEN + [(3, RING_OF_3), (3, PATH_OF_3), (3, LAZY_RING_OF_3), (4, STAR_OF_4)]:
                self.check(n, a, b, weights)

    def test_greatest_numbers(self):
        self.check(5, 97, 89, [100 - k % 7 for k in range(25)])
        self.check(5, 100, 100, [100] * 25)
        self.check(5, 100, 1, SLOW_5)

    def test_random_weights(self):
        source = random.Random(9)
        for n, rounds in [(2, 100), (3, 150), (4, 30), (5, 6)]:
            for k in range(rounds):
                weights = random_weights(source, n, source.choice([1, 3, 100]))
                self.check(n, source.randint(1, 100), source.randint(1, 100), weights)


class ByFormulas(unittest.TestCase):
    def test_two_places(self):
        numbers = (0, 1, 2, 99, 100)
        for weights in [[i, j, k, m] for i in numbers for j in numbers[1:] for k in numbers[1:] for m in numbers]:
            for a, b in [(1, 1), (1, 100), (100, 1), (100, 100), (3, 2)]:
                expected = [0] + [chances.chance_of_two(a, b, s, weights) for s in (1, 2)]
                self.assertEqual(best(2, a, b, weights), [set_of_greatest(2, expected)])

    def test_equal_kinds(self):
        source = random.Random(10)
        for n in (2, 3, 4, 5):
            for k in range(10):
                weights = random_weights(source, n, source.choice([1, 2, 100]))
                expected = set_of_greatest(n, chances.chances_of_equal_kinds(n, weights))
                self.assertEqual(best(n, 9, 9, weights), [expected])


class Edges(unittest.TestCase):
    def test_each_place_by_itself(self):
        # One place breeds into all others and is bred into by one of them alone, and seldom.
        for n in (2, 3, 4, 5):
            for i in range(n):
                weights = [1 if k != j else 0 for k in range(n) for j in range(n)]
                for k in range(n):
                    weights[k * n + i] = 0
                    weights[k * n + k] = 1
                weights[(i + 1) % n * n + i] = 1
                weights[(i + 1) % n * n + (i + 1) % n] = 100
                for a, b in [(1, 1), (1, 100), (100, 1), (3, 2)]:
                    self.assertEqual(best(n, a, b, weights), [2 ** i])

    def test_alike_in_millionths_and_yet_not_the_same(self):
        for a, b, told in [(1, 1, 333333), (2, 1, 571428)]:
            exact = chances.chances_by_steps(3, a, b, ALMOST_EVEN_3)
            for s in (1, 2, 4):
                self.assertEqual(chances.downwards(exact[s]), told)
                self.assertEqual(takes(3, a, b, s, ALMOST_EVEN_3), [0, told])
            self.assertGreater(exact[4], max(exact[1], exact[2]))
            self.assertEqual(best(3, a, b, ALMOST_EVEN_3), [4])

    def test_less_than_a_millionth(self):
        for i in range(5):
            self.assertEqual(takes(5, 1, 100, 2 ** i, UNEVEN_5), [0, 0])
        self.assertEqual(best(5, 1, 100, UNEVEN_5), [8])
        # The leaves of the star have the same chance all the same.
        self.assertEqual(best(4, 1, 100, STAR_OF_4), [14])

    def test_the_strengths_decide(self):
        for a, b, places in [(1, 100, 2), (1, 1, 6), (100, 1, 4)]:
            exact = chances.chances_by_steps(3, a, b, LAZY_RING_OF_3)
            self.assertEqual(set_of_greatest(3, exact), places)
            self.assertEqual(best(3, a, b, LAZY_RING_OF_3), [places])

    def test_weights_to_itself(self):
        # Where all places keep the same share to themselves, nothing but the time changes.
        patient = [7 if i == j else LAZY_RING_OF_3[3 * i + j] * 7 for i in range(3) for j in range(3)]
        self.assertEqual(best(3, 1, 1, patient), [7])
        # A place that keeps much to itself seldom wins the other one, which so is the better start.
        self.assertEqual(best(2, 1, 1, [100, 1, 1, 0]), [2])
        self.assertEqual(best(2, 1, 1, [0, 1, 1, 100]), [1])

    def test_row_of_its_own_scale(self):
        for weights in (PATH_OF_3, LAZY_RING_OF_3, ALMOST_EVEN_3[:3] + [1, 1, 1] + ALMOST_EVEN_3[6:]):
            scaled = weights[:3] + [weight * 2 for weight in weights[3:6]] + weights[6:]
            self.assertEqual(best(3, 5, 4, scaled), best(3, 5, 4, weights))

    def test_answer_is_a_list_of_one_whole_number(self):
        for n, weights in UNEVEN + [(5, full(5))]:
            answer = best(n, 2, 1, weights)
            self.assertIs(type(answer), list)
            self.assertEqual([type(number) for number in answer], [int])


if __name__ == '__main__':
    unittest.main()
