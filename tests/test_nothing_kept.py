import contextlib
import copy
import io
import random
import unittest

import takeover.places
from takeover.places import heats, lasts, mean, takes

# n, a, b, s, weights
INPUTS = [(2, 3, 2, 1, [0, 1, 1, 3]),
          (3, 2, 1, 5, [1, 2, 0, 0, 3, 4, 5, 0, 0]),
          (3, 2, 1, 0, [1, 2, 0, 0, 3, 4, 5, 0, 0]),
          (3, 2, 1, 7, [1, 2, 0, 0, 3, 4, 5, 0, 0]),
          (4, 1, 1, 2, [0, 1, 1, 1, 1, 0, 0, 0, 1, 0, 0, 0, 1, 0, 0, 0]),
          (5, 9, 10, 17, [k % 7 for k in range(25)]),
          (2, 1, 1, 1, [1, 0, 0, 1]),
          (2, 1, 1, 1, [0, 0, 1, 1]),
          (2, 1, 1, 4, [1, 1, 1, 1]),
          (5, 1, 1, 1, [101] * 25),
          (6, 1, 1, 1, [1] * 36),
          (2, 1, 1, 1, []),
          (5, 1, 1, 1, [1] * 40)]


def asked_takes(n, a, b, s, weights):
    return takes(n, a, b, s, weights)


def asked_mean(n, a, b, s, weights):
    return mean(n, a, b, weights)


def asked_lasts(n, a, b, s, weights):
    return lasts(n, a, b, s, weights)


def asked_heats(n, a, b, s, weights):
    return heats(n, weights)


FUNCTIONS = [asked_takes, asked_mean, asked_lasts, asked_heats]
CALLS = [(function, given) for given in INPUTS for function in FUNCTIONS]


def answers(calls):
    return [function(*given) for function, given in calls]


def forbidden(self, *arguments, **named):
    raise AssertionError('the list that was handed in is changed')


class Guarded(list):
    """A list that can't be changed, not for a while either."""

    append = clear = extend = insert = pop = remove = reverse = sort = forbidden
    __setitem__ = __delitem__ = __iadd__ = __imul__ = forbidden


class NothingKept(unittest.TestCase):
    def test_the_list_is_as_it_was(self):
        for function, (n, a, b, s, weights) in CALLS:
            handed_in = list(weights)
            function(n, a, b, s, handed_in)
            self.assertEqual(handed_in, weights)

    def test_the_list_is_not_changed_for_a_while_either(self):
        for function, (n, a, b, s, weights) in CALLS:
            self.assertEqual(function(n, a, b, s, Guarded(weights)), function(n, a, b, s, weights))

    def test_a_second_call_answers_the_same(self):
        for function, given in CALLS:
            self.assertEqual(function(*given), function(*given))

    def test_calls_in_differing_orders(self):
        first = answers(CALLS)
        self.assertEqual(answers(CALLS), first)
        self.assertEqual(answers(CALLS[::-1]), first[::-1])
        order = list(range(len(CALLS)))
        source = random.Random(5)
        for k in range(5):
            source.shuffle(order)
            self.assertEqual(answers([CALLS[k] for k in order]), [first[k] for k in order])

    def test_one_list_changed_between_two_calls(self):
        weights = [0, 1, 1, 0]
        self.assertEqual(takes(2, 1, 1, 1, weights), [0, 500000])
        self.assertEqual(mean(2, 2, 1, weights), [0, 666666])
        self.assertEqual(lasts(2, 1, 1, 1, weights), [0, 1000000])
        self.assertEqual(heats(2, weights), [1, 1000000, 1000000])
        weights[3] = 3
        self.assertEqual(takes(2, 1, 1, 1, weights), [0, 800000])
        # 8/9 from place 0, 1/3 from place 1.
        self.assertEqual(mean(2, 2, 1, weights), [0, 611111])
        self.assertEqual(lasts(2, 1, 1, 1, weights), [0, 1600000])
        self.assertEqual(heats(2, weights), [0, 250000, 1750000])

    def test_an_answer_is_the_callers_own(self):
        for function, given in CALLS:
            first = function(*given)
            expected = list(first)
            first.append(7)
            first[0] = 99
            self.assertEqual(function(*given), expected)

    def test_the_module_stays_as_it_was(self):
        def kept():
            names = vars(takeover.places)
            return {name: copy.deepcopy(names[name]) for name in names if not name.startswith('__')}
        before = kept()
        answers(CALLS)
        self.assertEqual(kept(), before)

    def test_nothing_is_printed(self):
        out = io.StringIO()
        with contextlib.redirect_stdout(out), contextlib.redirect_stderr(out):
            answers(CALLS)
        self.assertEqual(out.getvalue(), '')


if __name__ == '__main__':
    unittest.main()
