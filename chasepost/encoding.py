"""Nets as lists of bytes."""

from chasepost.checks import is_within
from chasepost.errors import InvalidCode
from chasepost.nets import LONGEST_DELAY, LONGEST_PERIOD, MOST_HOUSES, MOST_ORDERS, Net

FIRST_BYTE = 78
HEAD_LENGTH = 4
ORDER_LENGTH = 5


def encode(net):
    """Return the bytes of a net, a list of integers."""
    code = [FIRST_BYTE, net.period, net.houses, len(net.orders)]
    for order in net.orders:
        code.extend(order)
    return code + [checksum(code)]


def decode(code):
    """Return the net of a list of bytes; raise InvalidCode."""
    if not isinstance(code, list):
        raise InvalidCode(0)
    read_byte(code, 0, FIRST_BYTE, FIRST_BYTE)
    period = read_byte(code, 1, 1, LONGEST_PERIOD)
    houses = read_byte(code, 2, 1, MOST_HOUSES)
    # No order has a place in a net with one house, as its source and its target differ.
    many = read_byte(code, 3, 0, MOST_ORDERS if houses > 1 else 0)
    end = HEAD_LENGTH + many * ORDER_LENGTH
    orders = [read_order(code, place, period, houses) for place in range(HEAD_LENGTH, end, ORDER_LENGTH)]
    expected = checksum(code[:end])
    read_byte(code, end, expected, expected)
    if len(code) > end + 1:
        raise InvalidCode(end + 1)
    return Net(period, houses, tuple(orders))


def checksum(code):
    """Return the checksum of all bytes before it."""
    return sum(code) % 256


def read_byte(code, place, low, high):
    """Return the byte at a place; raise InvalidCode if it is missing or not an integer from low to high."""
    if place >= len(code) or not is_within(code[place], low, high):
        raise InvalidCode(place)
    return code[place]


def read_order(code, place, period, houses):
    """Return the order whose numbers begin at a place; raise InvalidCode."""
    source = read_byte(code, place, 0, houses - 1)
    target = read_byte(code, place + 1, 0, houses - 1)
    if target == source:
        raise InvalidCode(place + 1)
    first = read_byte(code, place + 2, 0, period - 1)
    days = read_byte(code, place + 3, 1, period)
    delay = read_byte(code, place + 4, 1, LONGEST_DELAY)
    return source, target, first, days, delay
