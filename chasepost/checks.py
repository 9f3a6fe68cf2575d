"""Checks of values, and the reading of lines, that several files share."""

from chasepost.errors import InvalidDay, UnknownHouse, UnknownOrder

LAST_DAY = 10 ** 18
MOST_DIGITS = 3


def is_integer(value):
    """Tell whether a value is an integer; True and False are not integers here."""
    return isinstance(value, int) and not isinstance(value, bool)


def is_within(value, low, high):
    """Tell whether a value is an integer from low to high."""
    return is_integer(value) and low <= value <= high


def check_house(net, house):
    """Raise UnknownHouse if the net does not have this house."""
    if not is_within(house, 0, net.houses - 1):
        raise UnknownHouse("the net does not have this house")


def check_day(day):
    """Raise InvalidDay if the value is not a day that may be passed."""
    if not is_within(day, 0, LAST_DAY):
        raise InvalidDay("a day is an integer from 0 to 10 ** 18")


def check_index(orders, index):
    """Raise UnknownOrder if there is no order of this number."""
    if not is_within(index, 0, len(orders) - 1):
        raise UnknownOrder("there is no order of this number")


def check_letter(net, house, day):
    """Raise UnknownHouse or InvalidDay if no letter can be posted at this house on this day."""
    check_house(net, house)
    check_day(day)


def is_numeral(word):
    """Tell whether a word has one to three digits without leading zeros."""
    if not (word.isascii() and word.isdigit()):
        return False
    return word == "0" or (len(word) <= MOST_DIGITS and word[0] != "0")


def read_line(line, word, count):
    """Return the numbers behind the word of a line, a tuple, or None if it is not this word with so many numbers."""
    first, *numerals = line.split(" ")
    if first != word or len(numerals) != count:
        return None
    if not all([is_numeral(numeral) for numeral in numerals]):
        return None
    return tuple([int(numeral) for numeral in numerals])
