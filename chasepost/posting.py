"""When and where letters must be posted to be delivered at a goal."""

from chasepost.chases import find_ways, letters
from chasepost.checks import check_day, check_house, check_letter


def last_posting(net, house, goal, day):
    """Return the last day of posting at a house for a delivery at a goal by a day, or None."""
    check_house(net, house)
    check_letter(net, goal, day)
    postings = []
    for source, start, days in ways_to(net, goal):
        latest = day - days
        posting = latest - (latest - start) % net.period
        if source == house and posting >= 0:
            postings.append(posting)
    return max(postings, default=None)


def senders(net, goal, day):
    """Return the ascending list of all (house, day) of posting for a delivery at a goal on a day."""
    check_letter(net, goal, day)
    found = []
    for source, start, days in ways_to(net, goal):
        posting = day - days
        if posting >= 0 and posting % net.period == start:
            found.append((source, posting))
    return sorted(found)


def count_deliveries(net, house, goal, first, last):
    """Return how many of the letters posted at a house, one on each day from first to last, come to a goal."""
    check_house(net, house)
    check_letter(net, goal, first)
    check_day(last)
    if last < first:
        return 0
    counts = [
        count_days(net.period, start, last) - count_days(net.period, start, first - 1)
        for source, start, days in ways_to(net, goal)
        if source == house
    ]
    return sum(counts)


def ways_to(net, goal):
    """Return (house, day, days) of each letter of the first period that is delivered at a goal so many days later."""
    ways = find_ways(net)
    found = []
    for house, day in letters(net):
        way = ways[(house, day)]
        if way is not None and way[0] == goal:
            found.append((house, day, way[1]))
    return found


def count_days(period, start, last):
    """Return how many days up to the last one, from 0 on, differ from the start by a multiple of the period."""
    return (last - start) // period + 1
