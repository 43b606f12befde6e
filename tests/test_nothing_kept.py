import contextlib
import copy
import importlib.util
import io
import itertools
import random
import unittest

import takeover.places
from takeover.places import best, heats, lasts, mean, takes

# n, a, b, s, weights
INPUTS = [(2, 3, 2, 1, [0, 1, 1, 3]),
          (3, 2, 1, 5, [1, 2, 0, 0, 3, 4, 5, 0, 0]),
          (3, 2, 1, 0, [1, 2, 0, 0, 3, 4, 5, 0, 0]),
          (3, 2, 1, 7, [1, 2, 0, 0, 3, 4, 5, 0, 0]),
          (4, 1, 1, 2, [0, 1, 1, 1, 1, 0, 0, 0, 1, 0, 0, 0, 1, 0, 0, 0]),
          (5, 9, 10, 17, [k % 7 for k in range(25)]),
          (2, 1, 1, 1, [1, 0, 0, 1]),
          (2, 1, 1, 1, [0, 0, 1, 1]),
          (2, 1, 1, 4, [1, 1, 1, 1]),
          (5, 1, 1, 1, [101] * 25),
          (6, 1, 1, 1, [1] * 36),
          (2, 1, 1, 1, []),
          (5, 1, 1, 1, [1] * 40)]
# What each function takes of an input.
FUNCTIONS = {'takes': lambda n, a, b, s, weights: (n, a, b, s, weights),
             'mean': lambda n, a, b, s, weights: (n, a, b, weights),
             'lasts': lambda n, a, b, s, weights: (n, a, b, s, weights),
             'heats': lambda n, a, b, s, weights: (n, weights),
             'best': lambda n, a, b, s, weights: (n, a, b, weights)}
CALLS = [(name, given) for given in INPUTS for name in FUNCTIONS]


def ask(name, given, module=takeover.places):
    return getattr(module, name)(*FUNCTIONS[name](*given))


def answers(calls):
    return [ask(name, given) for name, given in calls]


def new_module():
    """The program as if nothing had been called yet."""
    spec = importlib.util.spec_from_file_location('new_places', takeover.places.__file__)
    module = importlib.util.module_from_spec(spec)
    spec.loader.exec_module(module)
    return module


def forbidden(self, *arguments, **named):
    raise AssertionError('the list that was handed in is changed')


class Guarded(list):
    """A list that can't be changed, not for a while either."""

    append = clear = extend = insert = pop = remove = reverse = sort = forbidden
    __setitem__ = __delitem__ = __iadd__ = __imul__ = forbidden


class NothingKept(unittest.TestCase):
    def test_the_list_is_as_it_was(self):
        for name, (n, a, b, s, weights) in CALLS:
            handed_in = list(weights)
            ask(name, (n, a, b, s, handed_in))
            self.assertEqual(handed_in, weights)

    def test_the_list_is_not_changed_for_a_while_either(self):
        for name, (n, a, b, s, weights) in CALLS:
            self.assertEqual(ask(name, (n, a, b, s, Guarded(weights))), ask(name, (n, a, b, s, weights)))

    def test_a_second_call_answers_the_same(self):
        for name, given in CALLS:
            self.assertEqual(ask(name, given), ask(name, given))

    def test_all_functions_in_each_order(self):
        # Five places take long, and are among the calls of the next test.
        for given in INPUTS[:5] + INPUTS[6:]:
            alone = {name: ask(name, given, new_module()) for name in FUNCTIONS}
            for order in itertools.permutations(FUNCTIONS):
                module = new_module()
                for name in order:
                    self.assertEqual(ask(name, given, module), alone[name])

    def test_calls_in_differing_orders(self):
        alone = [ask(name, given, new_module()) for name, given in CALLS]
        self.assertEqual(answers(CALLS), alone)
        self.assertEqual(answers(CALLS[::-1]), alone[::-1])
        order = list(range(len(CALLS)))
        source = random.Random(5)
        for k in range(5):
            source.shuffle(order)
            self.assertEqual(answers([CALLS[k] for k in order]), [alone[k] for k in order])

    def test_one_list_changed_between_two_calls(self):
        weights = [0, 1, 1, 0]
        self.assertEqual(takes(2, 1, 1, 1, weights), [0, 500000])
        self.assertEqual(mean(2, 2, 1, weights), [0, 666666])
        self.assertEqual(lasts(2, 1, 1, 1, weights), [0, 1000000])
        self.assertEqual(heats(2, weights), [1, 1000000, 1000000])
        self.assertEqual(best(2, 1, 1, weights), [3])
        weights[3] = 3
        self.assertEqual(takes(2, 1, 1, 1, weights), [0, 800000])
        # 8/9 from place 0, 1/3 from place 1.
        self.assertEqual(mean(2, 2, 1, weights), [0, 611111])
        self.assertEqual(lasts(2, 1, 1, 1, weights), [0, 1600000])
        self.assertEqual(heats(2, weights), [0, 250000, 1750000])
        self.assertEqual(best(2, 1, 1, weights), [1])

    def test_an_answer_is_the_callers_own(self):
        for name, given in CALLS:
            first = ask(name, given)
            expected = list(first)
            first.append(7)
            first[0] = 99
            self.assertEqual(ask(name, given), expected)

    def test_the_module_stays_as_it_was(self):
        def kept():
            names = vars(takeover.places)
            return {name: copy.deepcopy(names[name]) for name in names if not name.startswith('__')}
        before = kept()
        answers(CALLS)
        self.assertEqual(kept(), before)

    def test_nothing_is_printed(self):
        out = io.StringIO()
        with contextlib.redirect_stdout(out), contextlib.redirect_stderr(out):
            answers(CALLS)
        self.assertEqual(out.getvalue(), '')


if __name__ == '__main__':
    unittest.main()
