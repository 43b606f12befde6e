import contextlib
import copy
import io
import unittest

import takeover.places
from takeover.places import takes

CALLS = [(2, 3, 2, 1, [0, 1, 1, 3]),
         (3, 2, 1, 5, [1, 2, 0, 0, 3, 4, 5, 0, 0]),
         (3, 2, 1, 0, [1, 2, 0, 0, 3, 4, 5, 0, 0]),
         (3, 2, 1, 7, [1, 2, 0, 0, 3, 4, 5, 0, 0]),
         (4, 1, 1, 2, [0, 1, 1, 1, 1, 0, 0, 0, 1, 0, 0, 0, 1, 0, 0, 0]),
         (5, 9, 10, 17, [k % 7 for k in range(25)]),
         (2, 1, 1, 1, [1, 0, 0, 1]),
         (2, 1, 1, 1, [0, 0, 1, 1]),
         (2, 1, 1, 4, [1, 1, 1, 1]),
         (5, 1, 1, 1, [101] * 25),
         (6, 1, 1, 1, [1] * 36),
         (2, 1, 1, 1, []),
         (5, 1, 1, 1, [1] * 40)]


def forbidden(self, *arguments, **named):
    raise AssertionError('the list that was handed in is changed')


class Guarded(list):
    """A list that can't be changed, not for a while either."""

    append = clear = extend = insert = pop = remove = reverse = sort = forbidden
    __setitem__ = __delitem__ = __iadd__ = __imul__ = forbidden


class NothingKept(unittest.TestCase):
    def test_the_list_is_as_it_was(self):
        for n, a, b, s, weights in CALLS:
            handed_in = list(weights)
            takes(n, a, b, s, handed_in)
            self.assertEqual(handed_in, weights)

    def test_the_list_is_not_changed_for_a_while_either(self):
        for n, a, b, s, weights in CALLS:
            self.assertEqual(takes(n, a, b, s, Guarded(weights)), takes(n, a, b, s, weights))

    def test_a_second_call_answers_the_same(self):
        first = [takes(*call) for call in CALLS]
        self.assertEqual([takes(*call) for call in CALLS], first)
        self.assertEqual([takes(*call) for call in reversed(CALLS)], first[::-1])

    def test_one_list_changed_between_two_calls(self):
        weights = [0, 1, 1, 0]
        self.assertEqual(takes(2, 1, 1, 1, weights), [0, 500000])
        weights[3] = 3
        self.assertEqual(takes(2, 1, 1, 1, weights), [0, 800000])

    def test_an_answer_is_the_callers_own(self):
        for call in CALLS:
            first = takes(*call)
            expected = list(first)
            first.append(7)
            first[0] = 99
            self.assertEqual(takes(*call), expected)

    def test_the_module_stays_as_it_was(self):
        def kept():
            names = vars(takeover.places)
            return {name: copy.deepcopy(names[name]) for name in names if not name.startswith('__')}
        before = kept()
        for call in CALLS:
            takes(*call)
        self.assertEqual(kept(), before)

    def test_nothing_is_printed(self):
        out = io.StringIO()
        with contextlib.redirect_stdout(out), contextlib.redirect_stderr(out):
            for call in CALLS:
                takes(*call)
        self.assertEqual(out.getvalue(), '')


if __name__ == '__main__':
    unittest.main()
