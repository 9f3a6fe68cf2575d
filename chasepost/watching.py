"""What the results of letters tell about a hidden order."""

from chasepost.chases import find_ways, result_on
from chasepost.checks import check_day, check_index, check_letter, is_integer, is_within
from chasepost.errors import Contradiction, InvalidResult
from chasepost.nets import LONGEST_DELAY, Net, with_order


class Watcher:
    """Posts letters in a net in which the target and the delay of one order are hidden."""

    def __init__(self, net, index):
        check_index(net.orders, index)
        self.net = net
        self.ways = find_candidates(net, index)
        self.remaining = list(self.ways)
        self.accepted = []

    def see(self, house, day, result):
        """Observe the result of a letter and return the number of candidates that remain."""
        return self.see_all((house, day, result))

    def see_all(self, *letters):
        """Observe the results of letters, all or none, and return the number of candidates that remain."""
        remaining = self.remaining
        observed = []
        for house, day, result in letters:
            check_letter(self.net, house, day)
            check_result(self.net, result)
            remaining = [candidate for candidate in remaining if self.result_with(candidate, house, day) == result]
            if not remaining:
                raise Contradiction("no candidate has this result")
            observed.append((house, day, result))
        self.remaining = remaining
        self.accepted = self.accepted + observed
        return len(remaining)

    @property
    def candidates(self):
        """The ascending list of all (target, delay) that the hidden order can have."""
        return list(self.remaining)

    @property
    def history(self):
        """The list of all accepted observations (house, day, result), in order."""
        return list(self.accepted)

    def results(self, house, day):
        """Return the ascending list of all results that a letter can have, after None if it can chase for ever."""
        check_letter(self.net, house, day)
        found = self.count_results(house, day)
        delivered = sorted([result for result in found if result is not None])
        if None in found:
            return [None] + delivered
        return delivered

    def best_letter(self, first):
        """Return the first (house, day) whose result leaves the fewest candidates in the worst case."""
        check_day(first)
        letters = []
        for house in range(self.net.houses):
            for day in range(first, first + self.net.period):
                fewest = max(self.count_results(house, day).values())
                letters.append((fewest, house, day))
        fewest, house, day = min(letters)
        return house, day

    def result_with(self, candidate, house, day):
        """Return the result that a letter has with a candidate."""
        return result_on(day, self.ways[candidate][(house, day % self.net.period)])

    def count_results(self, house, day):
        """Return a dict: with how many of the remaining candidates a letter has each of its results."""
        counts = {}
        for candidate in self.remaining:
            result = self.result_with(candidate, house, day)
            counts[result] = counts.get(result, 0) + 1
        return counts


def find_candidates(net, index):
    """Return a dict: the ways of all letters with each candidate (target, delay), in ascending order."""
    source, goal, first, days, wait = net.orders[index]
    ways = {}
    for target in range(net.houses):
        for delay in range(1, LONGEST_DELAY + 1):
            if target != source:
                orders = with_order(net.orders, index, (source, target, first, days, delay))
                ways[(target, delay)] = find_ways(Net(net.period, net.houses, orders))
    return ways


def check_result(net, result):
    """Raise InvalidResult if a value is not None or a tuple of a house of the net and a day."""
    if result is None:
        return
    if not isinstance(result, tuple) or len(result) != 2:
        raise InvalidResult("a result is None or a tuple (house, day)")
    house, day = result
    if not is_within(house, 0, net.houses - 1) or not is_integer(day):
        raise InvalidResult("a result has a house of the net and an integer as its day")
