"""A test case that looks at how long calls take."""

from unittest import TestCase

from eightworlds.errors import WorldError
from tests import helpers

SECOND = 1.0


class Timed(TestCase):
    def timed(self, call, *arguments, within=SECOND):
        """Return what a call returns, or its error, if it is quick enough."""
        with helpers.Meanwhile() as meanwhile:
            try:
                told = call(*arguments)
            except WorldError as error:
                told = error
        self.assertLess(meanwhile.seconds, within, call.__name__)
        return told
