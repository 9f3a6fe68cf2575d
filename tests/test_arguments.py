"""Wrong arguments of all functions, alone and several at once: the leftmost one counts (points 1, 3 to 6, 8, 9, 11)."""

import itertools
import unittest

import naive
from chasepost.chases import count_hops, day_sets, destination, where
from chasepost.errors import InvalidDay, InvalidLimit, InvalidOrder, InvalidResult, UnknownHouse, UnknownOrder
from chasepost.nets import Net
from chasepost.office import Office
from chasepost.planning import plan_days
from chasepost.posting import count_deliveries, last_posting, senders
from chasepost.watching import Watcher

NET = naive.example()
HOUSE = (2, UnknownHouse, naive.wrong_houses(NET))
DAY = (3, InvalidDay, naive.WRONG_DAYS)
LIMIT = (1, InvalidLimit, (-1, 4, 10 ** 5000) + naive.NO_INTEGERS)
RESULT = ((2, 3), InvalidResult, (True, 0, "", (), (2,), (2, True), (3, 3), [2, 3], (2, 3, 4), ("2", 3), (2, None)))
ORDER = (2, UnknownOrder, (-1, 3, 10 ** 5000) + naive.NO_INTEGERS)
DAYS = (2, InvalidOrder, (0, -1, 5, 10 ** 5000) + naive.NO_INTEGERS)


def first_stop(*arguments):
    return next(NET.route(*arguments, 1))


def first_stop_without_limit(*arguments):
    return list(NET.route(*arguments, 0))


CALLS = (
    (NET.order_at, HOUSE, DAY),
    (first_stop, HOUSE, DAY),
    (first_stop_without_limit, HOUSE, DAY),
    (lambda house, day: destination(NET, house, day), HOUSE, DAY),
    (lambda house: day_sets(NET, house), HOUSE),
    (lambda house, day, later: where(NET, house, day, later), HOUSE, DAY, DAY),
    (lambda house, day, later: count_hops(NET, house, day, later), HOUSE, DAY, DAY),
    (lambda house, goal, day: last_posting(NET, house, goal, day), HOUSE, HOUSE, DAY),
    (lambda goal, day: senders(NET, goal, day), HOUSE, DAY),
    (lambda house, goal, first, last: count_deliveries(NET, house, goal, first, last), HOUSE, HOUSE, DAY, DAY),
    (lambda limit: plan_days(NET, limit), LIMIT),
    (lambda index: Watcher(NET, index), ORDER),
    (lambda house, day, result: Watcher(NET, 2).see(house, day, result), HOUSE, DAY, RESULT),
    (lambda house, day, result: Watcher(NET, 2).see_all((house, day, result)), HOUSE, DAY, RESULT),
    (lambda house, day: Watcher(NET, 2).results(house, day), HOUSE, DAY),
    (lambda first: Watcher(NET, 2).best_letter(first), DAY),
    (lambda index: Office(NET).cancel(index), ORDER),
    (lambda index, days: Office(NET).prolong(index, days), ORDER, DAYS),
    (lambda index: Office(NET).raise_order(index), ORDER),
)


class WrongArguments(unittest.TestCase):
    def setUp(self):
        self.before = (NET.period, NET.houses, NET.orders, NET.text, NET.idle_orders)

    def tearDown(self):
        self.assertEqual((NET.period, NET.houses, NET.orders, NET.text, NET.idle_orders), self.before)

    def test_right_arguments(self):
        # The letter of house 2 is delivered there on day 3.
        for function, *kinds in CALLS:
            function(*[good for good, error, wrong in kinds])

    def test_one_wrong_argument(self):
        for number, (function, *kinds) in enumerate(CALLS):
            for place, (good, error, wrong) in enumerate(kinds):
                for value in wrong:
                    arguments = [kind[0] for kind in kinds]
                    arguments[place] = value
                    with self.subTest(number=number, place=place), self.assertRaises(error):
                        function(*arguments)

    def test_several_wrong_arguments(self):
        for number, (function, *kinds) in enumerate(CALLS):
            for pattern in itertools.product((False, True), repeat=len(kinds)):
                for at in range(3 if True in pattern else 0):
                    arguments = [kind[2][at] if wrong else kind[0] for kind, wrong in zip(kinds, pattern)]
                    with self.subTest(number=number, pattern=pattern):
                        with self.assertRaises(kinds[pattern.index(True)][1]):
                            function(*arguments)

    def test_first_and_last_values_that_are_right(self):
        last = naive.LAST_DAY
        for day in (0, last):
            self.assertEqual(destination(NET, 2, day), (2, day))
            self.assertEqual(where(NET, 2, day, last), ("delivered", 2))
            self.assertEqual(count_hops(NET, 2, day, last), 0)
            self.assertEqual(last_posting(NET, 2, 2, day), day)
            self.assertIn((2, day), senders(NET, 2, day))
            self.assertEqual(count_deliveries(NET, 2, 2, day, last), last - day + 1)
            self.assertEqual(Watcher(NET, 2).results(2, day), [(2, day)])
            self.assertIsNone(NET.order_at(2, day))
            self.assertEqual(first_stop(2, day), (2, day))
        self.assertEqual([plan_days(NET, limit) for limit in (0, 3)], [(), ()])

    def test_a_net_with_one_house(self):
        net = Net(1, 1, ())
        for house in (-1, 1, True, False, None):
            with self.assertRaises(UnknownHouse):
                destination(net, house, 0)
            with self.assertRaises(UnknownHouse):
                last_posting(net, 0, house, -1)
        self.assertEqual(destination(net, 0, 0), (0, 0))
