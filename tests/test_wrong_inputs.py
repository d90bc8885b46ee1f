"""Point 2: wrong arguments, the first error, TooMany at last, and what is left as it was."""

from copy import deepcopy
from unittest import TestCase

from eightworlds.errors import TooMany
from tests import helpers
from tests.every_call import EVERY_CALL
from tests.helpers import nested


def put(arguments, at, value):
    """The arguments with another one at a place."""
    return arguments[:at] + (value,) + arguments[at + 1:]


def each_call():
    """Each call of the table, with nothing for too many where there is no such limit."""
    for call, arguments, wrong, *limit in EVERY_CALL:
        yield call, arguments, wrong, (limit if limit else (None, None))


class Wrong(TestCase):
    def check(self, call, arguments, error):
        """Check that a call raises just this error, and leaves its arguments as they were."""
        before = repr(arguments)
        with self.assertRaises(error) as caught:
            call(*arguments)
        self.assertIs(caught.exception.__class__, error)
        self.assertEqual(repr(arguments), before)

    def test_arguments_that_fit(self):
        for call, arguments, _, _ in each_call():
            one, other = call(*arguments), call(*deepcopy(arguments))
            self.assertEqual(repr(one), repr(other))

    def test_each_wrong_argument(self):
        for call, arguments, wrong, _ in each_call():
            for at, kind in enumerate(wrong):
                for value in kind[1] if kind else ():
                    with self.subTest(call=call.__name__, at=at, value=repr(value)[:80]):
                        self.check(call, put(arguments, at, value), kind[0])

    def test_any_values_raise_nothing(self):
        some = helpers.OTHERS + helpers.INTS + helpers.WRONG_CUTTINGS
        for call, arguments, wrong, _ in each_call():
            for at, kind in enumerate(wrong):
                if kind is None:
                    for value in some:
                        before = repr(value)
                        self.assertIn(call(*put(arguments, at, value)), (True, False, None))
                        self.assertEqual(repr(value), before)

    def test_the_first_error_applies(self):
        for call, arguments, wrong, _ in each_call():
            kinds = [at for at, kind in enumerate(wrong) if kind]
            for at, first in enumerate(kinds):
                for last in kinds[at + 1:]:
                    for one in wrong[first][1][::9]:
                        for other in wrong[last][1][::9]:
                            with self.subTest(call=call.__name__, at=at, one=repr(one)[:80], other=repr(other)[:80]):
                                self.check(call, put(put(arguments, first, one), last, other), wrong[first][0])

    def test_all_wrong_at_once(self):
        for call, arguments, wrong, _ in each_call():
            if wrong[0]:
                for value in (None, True, [], "x", 1.5, {}, nested(29, 1, tuple), (None,) * 3):
                    self.check(call, (value,) * len(arguments), wrong[0][0])

    def test_too_many_comes_last(self):
        for call, arguments, wrong, (over, limit) in each_call():
            if over is None:
                continue
            with self.assertRaises(TooMany) as caught:
                call(*over)
            self.assertEqual(caught.exception.limit, limit)
            for at, kind in enumerate(wrong):
                for value in (None, True, [], "x", -helpers.GREAT_INT, (None,) * 3, nested(29, 1, list)):
                    if kind:
                        self.check(call, put(over, at, value), kind[0])


class NewLists(TestCase):
    def test_a_returned_list_is_new(self):
        seen = 0
        for call, arguments, _, _ in each_call():
            told = call(*arguments)
            if isinstance(told, list):
                seen += 1
                wanted = repr(told)
                told.append(None)
                told.reverse()
                again = call(*arguments)
                self.assertEqual(repr(again), wanted)
                self.assertIsNot(call(*arguments), again)
        self.assertTrue(seen > 10)

    def test_results_are_plain(self):
        def look(value, list_may_be):
            self.assertTrue(value is None or isinstance(value, (bool, int, str, tuple, list)))
            if isinstance(value, list):
                self.assertTrue(list_may_be)
            if isinstance(value, (tuple, list)):
                for item in value:
                    look(item, False)

        for call, arguments, _, _ in each_call():
            look(call(*arguments), True)
