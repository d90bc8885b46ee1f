"""Sums of products of ties, to powers."""

from eightworlds.basics import are_between, is_ascending, is_between, ratio
from eightworlds.errors import InvalidSum
from eightworlds.lengths import need_lengths
from eightworlds.polygons import need_cutting

MOST_PAIRS = 400
MOST_POWER = 60
MOST_TIMES = 10 ** 30
# More than twice what two powers come to at most, so that packed powers come in the order of the powers.
BASE = 256


def is_product(value, many):
    """Return whether any value is a pair of powers of so many ties, and how many times they are taken."""
    if not isinstance(value, tuple) or len(value) != 2:
        return False
    powers, number = value
    if not are_between(powers, -MOST_POWER, MOST_POWER) or len(powers) != many:
        return False
    return is_between(number, -MOST_TIMES, MOST_TIMES) and number != 0


def fit_sum(cutting, value):
    """Return whether any value is a sum of what is known to be a cutting."""
    if not isinstance(value, tuple) or len(value) > MOST_PAIRS:
        return False
    if not all([is_product(pair, 2 * cutting[0] - 3) for pair in value]):
        return False
    return is_ascending([powers for powers, _ in value])


def need_sum(cutting, value):
    """Raise InvalidSum for what is no sum of a cutting."""
    if not fit_sum(cutting, value):
        raise InvalidSum(f"an ascending tuple of at most {MOST_PAIRS} pairs of powers and a number is needed")


def is_sum(cutting, value):
    """Return whether any value is a sum of a cutting."""
    need_cutting(cutting)
    return fit_sum(cutting, value)


def columns_of(pairs):
    """Return, for each tie, the tuple of its powers in all products of a sum."""
    rows = [powers for powers, _ in pairs]
    return list(zip(*rows))


def packed(powers):
    """Return powers as one integer; what powers come to, added, has just the integer that theirs come to."""
    number = 0
    for power in powers:
        number = number * BASE + power
    return number


def sum_added(one, other):
    """Return the sum of two sums."""
    numbers = {powers: number for powers, number in one}
    for powers, number in other:
        numbers[powers] = numbers.get(powers, 0) + number
    return tuple(sorted([(powers, number) for powers, number in numbers.items() if number != 0]))


def sum_multiplied(one, other):
    """Return the product of two sums."""
    # There can be very many products; so powers are added column by column, and kept in order by integers.
    # Each power is taken from a list, at its own index, as fresh integers would need much more room.
    known = list(range(2 * MOST_POWER + 1)) + list(range(-2 * MOST_POWER, 0))
    moved = [
        {power: [known[power + theirs] for theirs in yours] for power in sorted(set(mine))}
        for mine, yours in zip(columns_of(one), columns_of(other))
    ]
    keys = [packed(powers) for powers, _ in other]
    numbers, totals = {}, {}
    for powers, number in one:
        key = packed(powers)
        columns = [sums[power] for power, sums in zip(powers, moved)]
        for more, total, (_, times) in zip(keys, list(zip(*columns)), other):
            numbers[key + more] = numbers.get(key + more, 0) + number * times
            totals[key + more] = total
    return tuple([(totals[key], numbers[key]) for key in sorted(numbers) if numbers[key] != 0])


def added(cutting, one_sum, other_sum):
    """Return the sum of two sums of a cutting."""
    need_cutting(cutting)
    need_sum(cutting, one_sum)
    need_sum(cutting, other_sum)
    return sum_added(one_sum, other_sum)


def multiplied(cutting, one_sum, other_sum):
    """Return the product of two sums of a cutting."""
    need_cutting(cutting)
    need_sum(cutting, one_sum)
    need_sum(cutting, other_sum)
    return sum_multiplied(one_sum, other_sum)


def powers_up_to(number, most):
    """Return the list of the powers of an integer, from that with 0 on."""
    found = [1]
    for _ in range(most):
        found.append(found[-1] * number)
    return found


def product_of(factors):
    """Return the product of integers."""
    if len(factors) < 2:
        return factors[0] if factors else 1
    # Integers of like size are multiplied soonest.
    half = len(factors) // 2
    return product_of(factors[:half]) * product_of(factors[half:])


def factors_by_power(share, low, high):
    """Return, by the powers from the one to the other one, those of a length, all made integers by the same factor."""
    tops, belows = powers_up_to(share[0], high - low), powers_up_to(share[1], high - low)
    return {power: tops[power - low] * belows[high - power] for power in range(low, high + 1)}


def common_share(share, low, high):
    """Return what undoes the factor by which powers of a length have been made integers, as a top and a below."""
    top = powers_up_to(share[0], max(low, 0))[-1] * powers_up_to(share[1], max(-high, 0))[-1]
    below = powers_up_to(share[0], max(-low, 0))[-1] * powers_up_to(share[1], max(high, 0))[-1]
    return (top, below)


def value_by(cutting, sum_so, lengths):
    """Return the value of a sum of a cutting, by lengths."""
    need_cutting(cutting)
    need_sum(cutting, sum_so)
    need_lengths(cutting, lengths)
    bounds = [(min(column), max(column)) for column in columns_of(sum_so)]
    factors = [factors_by_power(share, low, high) for share, (low, high) in zip(lengths, bounds)]
    total = 0
    for powers, number in sum_so:
        total = total + number * product_of([known[power] for power, known in zip(powers, factors)])
    common = [common_share(share, low, high) for share, (low, high) in zip(lengths, bounds)]
    return ratio(total * product_of([top for top, _ in common]), product_of([below for _, below in common]))
