"""Comparing and simplifying nets."""

from chasepost.chases import find_ways, result_on
from chasepost.errors import TooLong
from chasepost.nets import Net

LONGEST_MULTIPLE = 400


def first_difference(net, other):
    """Return (day, house, result, result) of the first letter with different results in two nets, or None."""
    multiple = common_multiple(net.period, other.period)
    if multiple > LONGEST_MULTIPLE:
        raise TooLong("the least common multiple of both periods is more than 400")
    ways, other_ways = find_ways(net), find_ways(other)
    for day in range(multiple):
        for house in range(min(net.houses, other.houses)):
            way = ways[(house, day % net.period)]
            other_way = other_ways[(house, day % other.period)]
            if way != other_way:
                return day, house, result_on(day, way), result_on(day, other_way)
    return None


def simplify(net):
    """Return a net without idle orders and without idle days at both ends of the others."""
    orders = []
    for index, order in enumerate(net.orders):
        offsets = followed_offsets(net, index)
        if offsets:
            source, target, first, days, delay = order
            start = (first + offsets[0]) % net.period
            orders.append((source, target, start, offsets[-1] - offsets[0] + 1, delay))
    return Net(net.period, net.houses, tuple(orders))


def common_multiple(period, other_period):
    """Return the least common multiple of two periods."""
    multiple = period
    while multiple % other_period != 0:
        multiple += period
    return multiple


def followed_offsets(net, index):
    """Return the ascending list of how many days after its first one an order is followed."""
    source, target, first, days, delay = net.orders[index]
    return [offset for offset in range(days) if net.order_at(source, first + offset) == index]
