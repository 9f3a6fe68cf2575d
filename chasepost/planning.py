"""Which orders must hold longer, and which do harm."""

from chasepost.chases import find_ways
from chasepost.checks import is_within
from chasepost.errors import InvalidLimit
from chasepost.nets import Net, without_order

HIGHEST_LIMIT = 3


def plan_days(net, limit):
    """Return the first of the shortest tuples of orders whose longer days leave no letter chasing, or None."""
    if not is_within(limit, 0, HIGHEST_LIMIT):
        raise InvalidLimit("a limit is an integer from 0 to 3")
    for size in range(limit + 1):
        for plan in list_plans(len(net.orders), size):
            if may_prolong(net, plan) and count_chasing(prolonged(net, plan)) == 0:
                return plan
    return None


def harmful_orders(net):
    """Return the ascending list of the numbers of all orders without which fewer letters chase for ever."""
    present = count_chasing(net)
    return [index for index in range(len(net.orders)) if count_chasing(without(net, index)) < present]


def count_chasing(net):
    """Return how many letters chase, of those posted at all houses on all days less than the period."""
    return list(find_ways(net).values()).count(None)


def list_plans(many, size):
    """Return all ascending tuples of this size of numbers less than many, in tuple order."""
    plans = [()]
    for place in range(size):
        plans = [plan + (number,) for plan in plans for number in range(many) if number >= max(plan, default=0)]
    return plans


def may_prolong(net, plan):
    """Tell whether no order of a plan would hold on more days than the period has."""
    return all([net.orders[index][3] + plan.count(index) <= net.period for index in plan])


def prolonged(net, plan):
    """Return a net in which each order holds one more day for each time that it occurs in a plan."""
    orders = []
    for index, (source, target, first, days, delay) in enumerate(net.orders):
        orders.append((source, target, first, days + plan.count(index), delay))
    return Net(net.period, net.houses, tuple(orders))


def without(net, index):
    """Return a net that lacks one order."""
    return Net(net.period, net.houses, without_order(net.orders, index))
