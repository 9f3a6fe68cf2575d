"""Nets of forwarding orders."""

from chasepost.checks import check_letter, is_within, read_line
from chasepost.errors import InvalidNet, TextFault

LONGEST_PERIOD = 30
MOST_HOUSES = 10
MOST_ORDERS = 20
LONGEST_DELAY = 9


class Net:
    """A period, a number of houses, and a tuple of orders (source, target, first, days, delay)."""

    def __init__(self, period, houses, orders):
        if not is_within(period, 1, LONGEST_PERIOD):
            raise InvalidNet("period", 0)
        if not is_within(houses, 1, MOST_HOUSES):
            raise InvalidNet("houses", 0)
        check_orders(period, houses, orders)
        self.period = period
        self.houses = houses
        self.orders = orders
        self.followed = find_followed(period, houses, orders)

    def order_at(self, house, day):
        """Return the number of the order that a letter at a house follows on a day, or None."""
        check_letter(self, house, day)
        return self.followed[house][day % self.period]

    def stop_after(self, house, day):
        """Return the next stop of a letter at a house on a day, (house, day), or None if it is delivered.

        The day is not checked: letters travel on beyond the last day that may be passed.
        """
        index = self.followed[house][day % self.period]
        if index is None:
            return None
        source, target, first, days, delay = self.orders[index]
        return target, day + delay

    def route(self, house, day, limit):
        """Yield the first stops (house, day) of a letter, at most as many as the limit."""
        check_letter(self, house, day)
        stop = (house, day)
        count = 0
        while stop is not None and count < limit:
            yield stop
            count += 1
            stop = self.stop_after(stop[0], stop[1])

    @property
    def idle_orders(self):
        """The ascending list of the numbers of all orders that no letter ever follows."""
        used = [index for days in self.followed for index in days]
        return [index for index in range(len(self.orders)) if index not in used]

    @property
    def text(self):
        """The text of the net."""
        lines = [f"net {self.period} {self.houses}"]
        for source, target, first, days, delay in self.orders:
            lines.append(f"order {source} {target} {first} {days} {delay}")
        return "\n".join(lines)

    @classmethod
    def parse(cls, text):
        """Return the net of a text; raise TextFault, then InvalidNet."""
        rows = read_rows(text)
        period, houses = rows[0]
        return cls(period, houses, tuple(rows[1:]))


def is_order(period, houses, order):
    """Tell whether a value is an order of a net with this period and this number of houses."""
    if not isinstance(order, tuple) or len(order) != 5:
        return False
    source, target, first, days, delay = order
    if not (is_within(source, 0, houses - 1) and is_within(target, 0, houses - 1) and source != target):
        return False
    return is_within(first, 0, period - 1) and is_within(days, 1, period) and is_within(delay, 1, LONGEST_DELAY)


def check_orders(period, houses, orders):
    """Raise InvalidNet if a value is not a tuple of orders, or has too many of them."""
    if not isinstance(orders, tuple):
        raise InvalidNet("orders", 0)
    for index, order in enumerate(orders):
        if index == MOST_ORDERS or not is_order(period, houses, order):
            raise InvalidNet("orders", index)


def with_order(orders, index, order):
    """Return the orders with another one in place of the one at the index."""
    return orders[:index] + (order,) + orders[index + 1:]


def without_order(orders, index):
    """Return the orders without the one at the index."""
    return orders[:index] + orders[index + 1:]


def find_followed(period, houses, orders):
    """Return a list with a list for each house: the number of the order followed on each day of the period, or None."""
    followed = [[None] * period for house in range(houses)]
    for index, (source, target, first, days, delay) in enumerate(orders):
        for later in range(days):
            day = (first + later) % period
            # An earlier order goes first, even if a later one is valid on the same day.
            if followed[source][day] is None:
                followed[source][day] = index
    return followed


def read_rows(text):
    """Return the numbers of the lines of a net's text, a list of tuples; raise TextFault."""
    if not isinstance(text, str):
        raise TextFault(0)
    rows = []
    word, count = "net", 2
    for at, line in enumerate(text.split("\n")):
        row = read_line(line, word, count)
        if row is None:
            raise TextFault(at)
        rows.append(row)
        word, count = "order", 5
    return rows
