"""A slow model of nets and letters, and nets and wrong values for the tests.

The model goes day by day and follows the wording of the document, so that it
shares no idea with the package.
"""

import random

from chasepost.nets import Net

EXAMPLE = (4, 3, ((0, 1, 0, 2, 1), (1, 0, 1, 2, 2), (1, 2, 0, 1, 3)))
CIRCLE = (2, 2, ((0, 1, 0, 2, 1), (1, 0, 0, 2, 1)))
LAST_DAY = 10 ** 18

NO_INTEGERS = (True, False, None, "", "0", "1", (), (0,), (1,), [], [0])
WRONG_DAYS = (-1, LAST_DAY + 1, -LAST_DAY, 10 ** 5000) + NO_INTEGERS


def example():
    return Net(*EXAMPLE)


def circle():
    return Net(*CIRCLE)


def wrong_houses(net):
    return (-1, net.houses, net.houses + 1, 10 ** 5000) + NO_INTEGERS


def random_net(seed):
    """Return a net; the same one for the same seed."""
    chance = random.Random(seed)
    period = chance.choice((1, 2, 3, 4, 5, 7, 12))
    houses = chance.randint(1, 5)
    orders = []
    for count in range(chance.randint(0, 12) if houses > 1 else 0):
        source, target = chance.sample(range(houses), 2)
        orders.append((source, target, chance.randrange(period), chance.randint(1, period), chance.randint(1, 9)))
    return Net(period, houses, tuple(orders))


def random_nets(count):
    return [random_net(seed) for seed in range(count)]


def is_valid(net, order, day):
    for later in range(order[3]):
        if (day - order[2] - later) % net.period == 0:
            return True
    return False


def order_at(net, house, day):
    for number, order in enumerate(net.orders):
        if order[0] == house and is_valid(net, order, day):
            return number
    return None


def route(net, house, day, limit):
    """Return the first stops of a letter."""
    stops = []
    while len(stops) < limit:
        stops.append((house, day))
        number = order_at(net, house, day)
        if number is None:
            break
        house, day = net.orders[number][1], day + net.orders[number][4]
    return stops


def whole_route(net, house, day):
    """Return more stops than a letter can have without chasing for ever, if it has so many."""
    return route(net, house, day, 2 * net.houses * net.period + 5)


def chases(net, house, day):
    last = whole_route(net, house, day)[-1]
    return order_at(net, last[0], last[1]) is not None


def destination(net, house, day):
    if chases(net, house, day):
        return None
    return whole_route(net, house, day)[-1]


def diary(net, house, day, last):
    """Return (where, hops) of a letter for each day from 0 to the last one."""
    entries = []
    hops = 0
    goal = None
    source = house
    arrival = day
    for today in range(last + 1):
        if today < day:
            entries.append((None, 0))
            continue
        if today == arrival:
            source = house if goal is None else goal
            number = order_at(net, source, today)
            if number is not None:
                hops += 1
                goal = net.orders[number][1]
                arrival = today + net.orders[number][4]
                entries.append((("house", source), hops))
                continue
        if today < arrival:
            entries.append((("way", source, goal, arrival - today), hops))
        else:
            entries.append((("delivered", source), hops))
    return entries


def count_chasing(net):
    return [chases(net, house, day) for house in range(net.houses) for day in range(net.period)].count(True)


def change_days(net, added):
    """Return a net whose orders hold so many more days, or None if one would hold on more days than the period has."""
    days = [order[3] + more for order, more in zip(net.orders, added)]
    if [many for many in days if many > net.period]:
        return None
    return Net(net.period, net.houses, tuple(
        order[:3] + (many, order[4]) for order, many in zip(net.orders, days)
    ))


def letters(net, last):
    """Return a list (house, day, result) of all letters that are posted on days up to the last one."""
    return [
        (house, day, destination(net, house, day)) for house in range(net.houses) for day in range(last + 1)
    ]
