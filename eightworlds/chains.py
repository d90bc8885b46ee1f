"""Chains of integers, and the fractions that they are."""

from eightworlds.basics import are_between, is_fraction, need_few
from eightworlds.errors import InvalidChain, InvalidFraction

MOST_TOP = 10 ** 30


def is_chain(value):
    """Return whether any value is a chain."""
    return are_between(value, -99, 99) and 1 <= len(value) <= 12


def need_chain(value):
    """Raise InvalidChain for what is no chain."""
    if not is_chain(value):
        raise InvalidChain("a tuple of 1 to 12 integers from -99 to 99 is needed")


def value_with(chain, sign):
    """Return the value of a chain in which each item stands with what is behind it by this sign."""
    top, below = chain[-1], 1
    for item in chain[-2::-1]:
        # A value with nought below, turned over, is nought here, just as it has to be.
        top, below = item * top + sign * below, top
    if below == 0:
        return (1, 0)
    return (top, below) if below > 0 else (-top, -below)


def minus_value(chain):
    """Return the minus value of a chain."""
    need_chain(chain)
    return value_with(chain, -1)


def plus_value(chain):
    """Return the plus value of a chain."""
    need_chain(chain)
    return value_with(chain, 1)


def need_chain_fraction(value):
    """Raise InvalidFraction for what is no fraction of 1 or more with a top that is not too great."""
    if not is_fraction(value) or not value[1] <= value[0] <= MOST_TOP:
        raise InvalidFraction("a fraction of 1 or more is needed, its top at most 10 ** 30")


def need_chain_fraction_above(value):
    """Raise InvalidFraction also for 1."""
    need_chain_fraction(value)
    if value == (1, 1):
        raise InvalidFraction("a fraction above 1 is needed")


def minus_items(fraction, most):
    """Return the list of the items of the minus chain of a fraction above nought, at most so many of them."""
    top, below = fraction
    items = []
    while below > 0 and len(items) < most:
        item = -(-top // below)
        items.append(item)
        top, below = below, item * below - top
    return items


def minus_chain(fraction):
    """Return the least minus chain of a fraction."""
    need_chain_fraction(fraction)
    items = minus_items(fraction, 201)
    need_few(len(items), 200)
    return tuple(items)


def plus_chain(fraction):
    """Return the plain plus chain of a fraction."""
    need_chain_fraction(fraction)
    top, below = fraction
    items = []
    while below > 0:
        items.append(top // below)
        top, below = below, top % below
    need_few(len(items), 200)
    return tuple(items)


def partner(fraction):
    """Return the partner of a fraction above 1."""
    return (fraction[0], fraction[0] - fraction[1])


def chain_partner(fraction):
    """Return the partner of a fraction above 1."""
    need_chain_fraction_above(fraction)
    return partner(fraction)


def two_ones(fraction):
    """Return 1, the least minus chain of a fraction, 1, and that of its partner turned round."""
    need_chain_fraction_above(fraction)
    items = [1] + minus_items(fraction, 41) + [1] + minus_items(partner(fraction), 41)[::-1]
    need_few(len(items), 40)
    return tuple(items)
