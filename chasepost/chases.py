"""Where and when letters are delivered, and how they chase."""

from chasepost.checks import check_day, check_letter


def destination(net, house, day):
    """Return the house and day of a letter's delivery, or None if it chases for ever."""
    stops, back = follow(net, house, day)
    if back is not None:
        return None
    return stops[-1]


def day_sets(net, house):
    """Return the days on which letters from a house are delivered, chase for ever, and come back to it."""
    delivered, chasing, returning = [], [], []
    for day in range(net.period):
        stops, back = follow(net, house, day)
        if back is None:
            delivered.append(day)
        else:
            chasing.append(day)
        if house in [stop[0] for stop in stops[1:]]:
            returning.append(day)
    return delivered, chasing, returning


def slowest(net):
    """Return (days, house, day) of the first letter that takes the most days to be delivered, or None."""
    best = None
    for house, day in letters(net):
        stops, back = follow(net, house, day)
        days = stops[-1][1] - day
        if back is None and (best is None or days > best[0]):
            best = (days, house, day)
    return best


def where(net, house, day, later):
    """Return where a letter is on a later day, a tuple, or None before the day of posting."""
    check_letter(net, house, day)
    check_day(later)
    if later < day:
        return None
    source, start, hops = last_stop(net, house, day, later)
    following = net.stop_after(source, start)
    if following is None:
        return "delivered", source
    if start == later:
        return "house", source
    target, arrival = following
    return "way", source, target, arrival - later


def count_hops(net, house, day, later):
    """Return how many orders a letter has begun to follow by a later day."""
    check_letter(net, house, day)
    check_day(later)
    if later < day:
        return 0
    source, start, hops = last_stop(net, house, day, later)
    if net.stop_after(source, start) is None:
        return hops
    return hops + 1


def loops(net):
    """Return the ascending list of all loops, each one a list of stops (house, day of the period)."""
    found = []
    for house, day in letters(net):
        stops, back = follow(net, house, day)
        # Each loop is found once at each of its stops; only the smallest one begins it.
        if back == 0:
            loop = day_stops(net, stops[:-1])
            if loop[0] == min(loop):
                found.append(loop)
    return found


def letters(net):
    """Return the list of all (house, day) in a period, in the order of houses and then of days."""
    return [(house, day) for house in range(net.houses) for day in range(net.period)]


def day_stops(net, stops):
    """Return the stops with their days of the period instead of their days."""
    return [(house, day % net.period) for house, day in stops]


def find_ways(net):
    """Return a dict: (goal, days) of the letter posted at each (house, day of the period), or None if it chases.

    The letter is delivered at the goal so many days after its posting.
    """
    ways = {}
    for house, day in letters(net):
        add_ways(net, house, day, ways)
    return ways


def add_ways(net, house, day, ways):
    """Add the way of a letter, and the ways of all letters on its trail, to those that are known."""
    trail = []
    stop = (house, day)
    while stop is not None and (stop[0], stop[1] % net.period) not in ways:
        # A letter that comes back to its own trail meets this None there, and keeps it: it chases.
        ways[(stop[0], stop[1] % net.period)] = None
        trail.append(stop)
        stop = net.stop_after(stop[0], stop[1])
    if stop is None:
        goal, arrival = trail[-1]
    else:
        known = ways[(stop[0], stop[1] % net.period)]
        if known is None:
            return
        goal, arrival = known[0], stop[1] + known[1]
    for source, start in trail:
        ways[(source, start % net.period)] = (goal, arrival - start)


def result_on(day, way):
    """Return the result of a letter that is posted on a day and has this way, or None if it chases for ever."""
    if way is None:
        return None
    goal, days = way
    return goal, day + days


def follow(net, house, day):
    """Return the stops of a letter up to its end, and the index of the stop to which it comes back there, or None.

    The end is the delivery, or the first stop at the house and the day of the period of an earlier stop. As the
    route does, it raises UnknownHouse or InvalidDay for a letter that cannot be posted.
    """
    stops = []
    seen = {}
    # There are no more different stops than this, so a letter beyond the limit has come back.
    limit = net.houses * net.period + 1
    for stop in net.route(house, day, limit):
        place = (stop[0], stop[1] % net.period)
        stops.append(stop)
        if place in seen:
            return stops, seen[place]
        seen[place] = len(stops) - 1
    return stops, None


def last_stop(net, house, day, later):
    """Return (house, day, hops) of a letter's last stop by a later day: the hops are those that led there."""
    stops, back = follow(net, house, day)
    skipped_days, skipped_hops = 0, 0
    if back is not None and later >= stops[back][1]:
        # Whole rounds of a loop are skipped: a later day may be too far away to go there hop by hop.
        days = stops[-1][1] - stops[back][1]
        rounds = (later - stops[back][1]) // days
        skipped_days = rounds * days
        skipped_hops = rounds * (len(stops) - 1 - back)
    index = len([stop for stop in stops if stop[1] + skipped_days <= later]) - 1
    return stops[index][0], stops[index][1] + skipped_days, index + skipped_hops
