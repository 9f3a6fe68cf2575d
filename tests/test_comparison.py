"""Comparing and simplifying nets: point 10."""

import unittest

import naive
from chasepost.chases import destination
from chasepost.comparison import first_difference, simplify
from chasepost.errors import TooLong
from chasepost.nets import Net


def common_days(net, other):
    return [day for day in range(1, net.period * other.period + 1) if day % net.period == 0 == day % other.period][0]


def naive_difference(net, other):
    for day in range(common_days(net, other)):
        for house in range(min(net.houses, other.houses)):
            results = naive.destination(net, house, day), naive.destination(other, house, day)
            if results[0] != results[1]:
                return (day, house) + results
    return None


def naive_simplify(net):
    """Return the orders of the simplified net: each one begins and ends with a day on which it is followed."""
    orders = []
    for number, (source, target, first, days, delay) in enumerate(net.orders):
        listed = [(first + later) % net.period for later in range(days)]
        while listed and naive.order_at(net, source, listed[0]) != number:
            listed.pop(0)
        while listed and naive.order_at(net, source, listed[-1]) != number:
            listed.pop()
        if listed:
            orders.append((source, target, listed[0], len(listed), delay))
    return tuple(orders)


def alike_as_long_as_possible(periods):
    """Return two nets of these periods whose letters have the same results on as many days as possible.

    They are two different words repeated, and two such words agree in less than the sum of their lengths.
    """
    last = sum(periods) - 2
    groups = list(range(last))
    for day in range(last):
        for period in periods:
            if day >= period:
                old, new = groups[day], groups[day - period]
                groups = [new if group == old else group for group in groups]
    # The rarer of the two groups, as a net has at most 20 orders.
    rare = min(groups, key=groups.count)
    nets = []
    for period in periods:
        days = [day for day in range(period) if groups[day] == rare]
        nets.append(Net(period, 2, tuple((0, 1, day, 1, 1) for day in days)))
    return nets


class FirstDifference(unittest.TestCase):
    def assert_both_ways(self, net, other, found):
        self.assertEqual(first_difference(net, other), found)
        if found is None:
            self.assertIsNone(first_difference(other, net))
        else:
            day, house, result, other_result = found
            self.assertEqual(first_difference(other, net), (day, house, other_result, result))

    def test_example(self):
        net = naive.example()
        other = Net(4, 3, net.orders[:2])
        self.assert_both_ways(net, other, (0, 1, (2, 3), (1, 0)))

    def test_the_same_net_twice(self):
        for net in naive.random_nets(30):
            self.assertIsNone(first_difference(net, net))
            self.assertIsNone(first_difference(net, Net(net.period, net.houses, net.orders)))

    def test_one_order_differs(self):
        net = naive.example()
        self.assert_both_ways(net, Net(4, 3, net.orders[:2] + ((1, 2, 0, 1, 4),)), (0, 1, (2, 3), (2, 4)))
        self.assert_both_ways(net, Net(4, 3, net.orders[:2] + ((1, 0, 0, 1, 3),)), (0, 1, (2, 3), (0, 3)))
        self.assert_both_ways(net, Net(4, 3, net.orders + ((2, 1, 3, 1, 1),)), (0, 1, (2, 3), None))
        self.assert_both_ways(net, Net(4, 3, net.orders + ((2, 0, 2, 1, 1),)), (2, 2, (2, 2), (0, 3)))

    def test_days_before_houses(self):
        # House 0 differs on day 3 only, house 1 on day 1 only.
        net = Net(4, 3, ())
        other = Net(4, 3, ((0, 2, 3, 1, 1), (1, 2, 1, 1, 1)))
        self.assert_both_ways(net, other, (1, 1, (1, 1), (2, 2)))
        # Houses 1 and 2 differ on the same day.
        other = Net(4, 3, ((2, 0, 1, 1, 5), (1, 2, 1, 1, 1)))
        self.assert_both_ways(net, other, (1, 1, (1, 1), (2, 2)))

    def test_a_letter_that_chases(self):
        net = naive.circle()
        self.assert_both_ways(net, Net(2, 2, ()), (0, 0, None, (0, 0)))
        self.assert_both_ways(net, Net(2, 2, net.orders[:1]), (0, 0, None, (1, 1)))
        self.assert_both_ways(net, Net(1, 2, ((0, 1, 0, 1, 9), (1, 0, 0, 1, 9))), None)

    def test_written_differently_with_the_same_results(self):
        net = Net(2, 2, ((0, 1, 1, 1, 3),))
        for orders in (
            ((0, 1, 1, 1, 3), (0, 1, 3, 1, 3)), ((0, 1, 3, 1, 3), (0, 1, 1, 1, 3), (0, 1, 1, 1, 7)),
        ):
            self.assert_both_ways(net, Net(4, 2, orders), None)
        self.assert_both_ways(Net(3, 2, ((0, 1, 0, 3, 2),)), Net(7, 2, ((0, 1, 5, 7, 2),)), None)
        # The letter takes another way, of the same length, to the same house.
        self.assert_both_ways(
            Net(1, 3, ((0, 1, 0, 1, 2), (1, 2, 0, 1, 3))), Net(1, 3, ((0, 2, 0, 1, 5), (1, 2, 0, 1, 3))), None,
        )

    def test_the_same_house_on_another_day(self):
        self.assert_both_ways(
            Net(1, 2, ((0, 1, 0, 1, 2),)), Net(1, 2, ((0, 1, 0, 1, 3),)), (0, 0, (1, 2), (1, 3)),
        )

    def test_different_periods(self):
        net, other = Net(2, 2, ((0, 1, 0, 1, 1),)), Net(3, 2, ((0, 1, 0, 1, 1),))
        self.assert_both_ways(net, other, (2, 0, (1, 3), (0, 2)))
        net, other = Net(2, 2, ((0, 1, 1, 1, 1),)), Net(4, 2, ((0, 1, 1, 1, 1),))
        self.assert_both_ways(net, other, (3, 0, (1, 4), (0, 3)))

    def test_different_numbers_of_houses(self):
        net = Net(2, 2, ((0, 1, 0, 1, 1),))
        self.assert_both_ways(net, Net(2, 5, net.orders), None)
        # House 2 exists in one net only, and so its letters are not considered.
        self.assert_both_ways(net, Net(2, 5, net.orders + ((2, 0, 0, 2, 1), (4, 3, 0, 2, 1))), None)
        self.assert_both_ways(net, Net(2, 5, net.orders + ((1, 4, 0, 1, 1),)), (0, 1, (1, 0), (4, 1)))
        self.assert_both_ways(Net(1, 1, ()), Net(30, 10, ((1, 0, 0, 30, 1),)), None)

    def test_the_last_day_of_the_period(self):
        self.assert_both_ways(Net(30, 2, ((0, 1, 29, 1, 4),)), Net(30, 2, ()), (29, 0, (1, 33), (0, 29)))

    def test_late_differences(self):
        # One holds on the days 1, 4, 7 .., the other one on the days 1, 4, 6, 9 ..
        net, other = Net(3, 2, ((0, 1, 1, 1, 1),)), Net(5, 2, ((0, 1, 1, 1, 1), (0, 1, 4, 1, 1)))
        self.assert_both_ways(net, other, (6, 0, (0, 6), (1, 7)))
        for periods in ((3, 5), (3, 7), (11, 13), (16, 25), (13, 30)):
            net, other = alike_as_long_as_possible(periods)
            found = first_difference(net, other)
            self.assertEqual(found, naive_difference(net, other))
            self.assertEqual(found[:2], (sum(periods) - 2, 0))
            self.assertGreater(found[0], max(periods))

    def test_longest_common_periods(self):
        net = Net(16, 2, ((0, 1, 3, 16, 2),))
        self.assertIsNone(first_difference(net, Net(25, 2, ((0, 1, 24, 25, 2),))))
        self.assertEqual(first_difference(net, Net(25, 2, ((0, 1, 0, 24, 2),))), (24, 0, (1, 26), (0, 24)))
        self.assertIsNone(first_difference(Net(25, 2, ()), Net(16, 3, ())))

    def test_too_long(self):
        # 406, 408, 414, 418, 420 .. and 870 are the least common multiples of these.
        for period, other in ((14, 29), (17, 24), (18, 23), (19, 22), (20, 21), (25, 17), (28, 29), (29, 30)):
            for houses in (1, 2):
                with self.assertRaises(TooLong):
                    first_difference(Net(period, houses, ()), Net(other, 1, ()))
                with self.assertRaises(TooLong):
                    first_difference(Net(other, 1, ()), Net(period, houses, ()))
        with self.assertRaises(TooLong):
            first_difference(Net(14, 2, ((0, 1, 0, 1, 1),)), Net(29, 2, ()))

    def test_all_pairs_of_periods(self):
        for period in range(1, 31):
            for other in range(1, 31):
                net, other_net = Net(period, 1, ()), Net(other, 1, ())
                if common_days(net, other_net) > 400:
                    with self.assertRaises(TooLong):
                        first_difference(net, other_net)
                else:
                    self.assertIsNone(first_difference(net, other_net))

    def test_as_the_model(self):
        nets = naive.random_nets(60)
        for net in nets[::3]:
            for other in nets[1::4]:
                self.assert_both_ways(net, other, naive_difference(net, other))

    def test_as_the_model_for_similar_nets(self):
        for net in naive.random_nets(150):
            for number in range(len(net.orders)):
                other = Net(net.period, net.houses, net.orders[:number] + net.orders[number + 1:])
                self.assert_both_ways(net, other, naive_difference(net, other))

    def test_the_results_are_those_of_the_letter(self):
        for net, other in zip(naive.random_nets(60), naive.random_nets(80)[20:]):
            found = first_difference(net, other)
            if found is not None:
                day, house, result, other_result = found
                self.assertEqual((result, other_result), (destination(net, house, day), destination(other, house, day)))


class Simplify(unittest.TestCase):
    def assert_simplified(self, period, orders, expected):
        net = Net(period, 3, orders)
        simple = simplify(net)
        self.assertEqual((simple.period, simple.houses, simple.orders), (period, 3, expected))
        self.assert_same_routes(net, simple)

    def assert_same_routes(self, net, simple):
        for house in range(net.houses):
            for day in range(net.period):
                self.assertEqual(list(simple.route(house, day, 400)), list(net.route(house, day, 400)))

    def test_example(self):
        simple = simplify(Net(2, 2, ((0, 1, 0, 2, 1), (0, 1, 0, 1, 2))))
        self.assertIsInstance(simple, Net)
        self.assertEqual((simple.period, simple.houses, simple.orders), (2, 2, ((0, 1, 0, 2, 1),)))

    def test_without_idle_orders_and_days(self):
        self.assert_simplified(1, (), ())
        orders = naive.example().orders
        self.assert_simplified(4, orders, orders)
        self.assert_simplified(4, ((0, 1, 3, 4, 1), (1, 0, 3, 2, 9)), ((0, 1, 3, 4, 1), (1, 0, 3, 2, 9)))

    def test_idle_orders(self):
        first, second = (0, 1, 0, 3, 1), (1, 2, 2, 3, 4)
        self.assert_simplified(5, (first, first, second, (1, 0, 3, 2, 1)), (first, second))
        self.assert_simplified(5, (second, (1, 0, 4, 1, 1), first, first), (second, first))

    def test_an_order_that_others_hide_together(self):
        orders = ((0, 1, 0, 2, 1), (0, 1, 2, 2, 2), (0, 2, 0, 4, 3))
        self.assert_simplified(4, orders, orders[:2])

    def test_the_beginning_is_not_followed(self):
        self.assert_simplified(6, ((0, 1, 0, 3, 1), (0, 2, 1, 4, 1)), ((0, 1, 0, 3, 1), (0, 2, 3, 2, 1)))

    def test_the_end_is_not_followed(self):
        self.assert_simplified(6, ((0, 1, 3, 3, 1), (0, 2, 1, 4, 1)), ((0, 1, 3, 3, 1), (0, 2, 1, 2, 1)))

    def test_the_middle_is_not_followed(self):
        orders = ((0, 1, 2, 2, 1), (0, 2, 1, 4, 1))
        self.assert_simplified(6, orders, orders)

    def test_beginning_middle_and_end(self):
        self.assert_simplified(
            8,
            ((0, 1, 0, 2, 1), (0, 1, 3, 1, 2), (0, 1, 6, 2, 3), (0, 2, 0, 8, 1)),
            ((0, 1, 0, 2, 1), (0, 1, 3, 1, 2), (0, 1, 6, 2, 3), (0, 2, 2, 4, 1)),
        )

    def test_days_beyond_the_end_of_the_period(self):
        # The days are 4, 5, 0, 1, 2 in this sequence.
        self.assert_simplified(6, ((0, 1, 4, 1, 1), (0, 2, 4, 5, 1)), ((0, 1, 4, 1, 1), (0, 2, 5, 4, 1)))
        self.assert_simplified(6, ((0, 1, 3, 3, 1), (0, 2, 4, 5, 1)), ((0, 1, 3, 3, 1), (0, 2, 0, 3, 1)))
        self.assert_simplified(6, ((0, 1, 1, 2, 1), (0, 2, 4, 5, 1)), ((0, 1, 1, 2, 1), (0, 2, 4, 3, 1)))
        self.assert_simplified(6, ((0, 1, 0, 3, 1), (0, 2, 4, 5, 1)), ((0, 1, 0, 3, 1), (0, 2, 4, 2, 1)))
        orders = ((0, 1, 5, 2, 1), (0, 2, 4, 5, 1))
        self.assert_simplified(6, orders, orders)

    def test_all_days_from_a_first_one_on(self):
        # The days are 2, 3, 0, 1 in this sequence, so day 2 is the first one although 0 and 1 would be fewer days.
        orders = ((0, 1, 3, 1, 1), (0, 2, 2, 4, 1))
        self.assert_simplified(4, orders, orders)
        self.assert_simplified(4, ((0, 1, 1, 2, 1), (0, 2, 2, 4, 1)), ((0, 1, 1, 2, 1), (0, 2, 3, 2, 1)))

    def test_one_day_remains(self):
        self.assert_simplified(5, ((0, 1, 3, 4, 1), (0, 2, 0, 5, 1)), ((0, 1, 3, 4, 1), (0, 2, 2, 1, 1)))
        self.assert_simplified(1, ((0, 1, 0, 1, 1), (0, 2, 0, 1, 1)), ((0, 1, 0, 1, 1),))

    def test_later_orders_do_not_matter(self):
        orders = ((0, 2, 1, 4, 1), (0, 1, 0, 6, 1))
        self.assert_simplified(6, orders, ((0, 2, 1, 4, 1), (0, 1, 0, 6, 1)))
        self.assert_simplified(6, ((0, 2, 1, 5, 1), (0, 1, 0, 6, 1)), ((0, 2, 1, 5, 1), (0, 1, 0, 1, 1)))

    def test_other_houses_do_not_matter(self):
        orders = ((0, 1, 1, 4, 1), (1, 2, 1, 4, 1), (2, 0, 1, 4, 1))
        self.assert_simplified(6, orders, orders)

    def test_as_the_model(self):
        for net in naive.random_nets(300):
            simple = simplify(net)
            self.assertEqual((simple.period, simple.houses), (net.period, net.houses))
            self.assertEqual(simple.orders, naive_simplify(net))
            self.assertEqual(simple.idle_orders, [])
            self.assertIsNone(first_difference(net, simple))
            self.assert_same_routes(net, simple)

    def test_a_net_that_is_simplified_already(self):
        for net in naive.random_nets(100):
            simple = simplify(net)
            again = simplify(simple)
            self.assertEqual(
                (again.period, again.houses, again.orders), (simple.period, simple.houses, simple.orders),
            )

    def test_the_net_is_as_before(self):
        net = Net(6, 3, ((0, 1, 0, 3, 1), (0, 2, 1, 4, 1), (0, 1, 1, 1, 1)))
        orders = net.orders
        simplify(net)
        self.assertEqual((net.orders, net.idle_orders, net.order_at(0, 4)), (orders, [2], 1))
