"""Measures of integers and of fractions, which are polynomials."""

from eightworlds.basics import are_between, is_fraction, need_number
from eightworlds.chains import is_chain, minus_items
from eightworlds.errors import InvalidChain, InvalidFraction


def times_measure(number, numbers):
    """Return the list of the numbers of a polynomial times the measure of an integer."""
    places = range(len(numbers) + number - 1)
    return [sum(numbers[max(0, place - number + 1):place + 1]) for place in places]


def parts_of_items(items):
    """Return the measured parts of the list of the items of a chain."""
    top, below = (1,) * items[-1], (1,)
    for item in items[-2::-1]:
        whole = times_measure(item, top)
        # The former parts have lower powers, so the last number of the product stays.
        gone = [0] * (item - 1) + list(below)
        gone = gone + [0] * (len(whole) - len(gone))
        top, below = tuple([one - other for one, other in zip(whole, gone)]), top
    return (top, below)


def measure_of(number):
    """Return the measure of an integer."""
    need_number(number, 1, 60)
    return (1,) * number


def measured(fraction):
    """Return the measured parts of a fraction."""
    if not is_fraction(fraction) or not fraction[1] <= fraction[0] <= 200:
        raise InvalidFraction("a fraction of 1 or more is needed, its top at most 200")
    return parts_of_items(minus_items(fraction, 200))


def measured_by(chain):
    """Return the measured parts of a chain."""
    if not is_chain(chain) or not are_between(chain, 2, 20):
        raise InvalidChain("a chain of integers from 2 to 20 is needed")
    return parts_of_items(list(chain))
