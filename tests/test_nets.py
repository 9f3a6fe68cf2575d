"""Nets, valid orders and routes: points 2 to 4."""

import itertools
import unittest

import naive
from chasepost.errors import InvalidDay, InvalidNet, UnknownHouse
from chasepost.nets import Net

GOOD = (0, 1, 0, 1, 1)
NO_ORDERS = (None, True, False, 0, 5, "", "order", (), [], [0, 1, 0, 1, 1], (0, 1, 0, 1), (0, 1, 0, 1, 1, 1))


class NetCase(unittest.TestCase):
    def assert_invalid(self, period, houses, orders, part, index):
        with self.subTest(part=part, index=index, orders=orders):
            with self.assertRaises(InvalidNet) as caught:
                Net(period, houses, orders)
            self.assertEqual((caught.exception.part, caught.exception.index), (part, index))

    def assert_order(self, period, houses, order, good):
        with self.subTest(period=period, houses=houses, order=order):
            if good:
                self.assertEqual(Net(period, houses, (order,)).orders, (order,))
            else:
                self.assert_invalid(period, houses, (order,), "orders", 0)


class WhatANetIs(NetCase):
    def test_attributes(self):
        net = naive.example()
        self.assertEqual((net.period, net.houses, net.orders), naive.EXAMPLE)
        net = Net(period=2, houses=2, orders=())
        self.assertEqual((net.period, net.houses, net.orders), (2, 2, ()))

    def test_periods(self):
        for period in (1, 2, 29, 30):
            self.assertEqual(Net(period, 1, ()).period, period)
        for period in (-1, 0, 31, 32, 10 ** 5000) + naive.NO_INTEGERS:
            self.assert_invalid(period, 1, (), "period", 0)

    def test_houses(self):
        for houses in (1, 2, 9, 10):
            self.assertEqual(Net(1, houses, ()).houses, houses)
        for houses in (-1, 0, 11, 12, 10 ** 5000) + naive.NO_INTEGERS:
            self.assert_invalid(1, houses, (), "houses", 0)

    def test_orders_must_be_a_tuple(self):
        for orders in (None, True, False, 0, 1, "", "ab", [], [GOOD], [None]):
            self.assert_invalid(2, 2, orders, "orders", 0)

    def test_items_that_are_no_orders(self):
        for item in NO_ORDERS:
            self.assert_invalid(2, 2, (item,), "orders", 0)
            self.assert_invalid(2, 2, (GOOD, GOOD, item, GOOD), "orders", 2)

    def test_an_order_itself_is_no_tuple_of_orders(self):
        self.assert_invalid(2, 2, GOOD, "orders", 0)

    def test_the_first_wrong_item_counts(self):
        self.assert_invalid(2, 2, (GOOD, None, GOOD, (0, 0, 0, 1, 1), ()), "orders", 1)

    def test_values_that_are_no_integers_in_an_order(self):
        for place, value in itertools.product(range(5), naive.NO_INTEGERS):
            order = list((1, 0, 1, 1, 1) if place == 1 else (0, 1, 1, 1, 1))
            order[place] = value
            self.assert_invalid(2, 2, (GOOD, tuple(order)), "orders", 1)

    def test_houses_of_an_order(self):
        for house in range(-2, 6):
            self.assert_order(3, 4, (house, 0, 0, 1, 1), house in (1, 2, 3))
            self.assert_order(3, 4, (0, house, 0, 1, 1), house in (1, 2, 3))
            self.assert_order(3, 4, (house, house, 0, 1, 1), False)
        self.assert_order(3, 10, (9, 0, 0, 1, 1), True)
        self.assert_order(3, 10, (0, 9, 0, 1, 1), True)
        self.assert_order(3, 10, (10, 0, 0, 1, 1), False)
        self.assert_order(3, 10, (0, 10, 0, 1, 1), False)

    def test_first_day_of_an_order(self):
        for period in (1, 4, 30):
            for first in (-2, -1, 0, 1, 3, 4, 5, 29, 30, 31):
                self.assert_order(period, 2, (0, 1, first, 1, 1), 0 <= first < period)

    def test_number_of_days_of_an_order(self):
        for period in (1, 4, 30):
            for days in (-1, 0, 1, 2, 4, 5, 30, 31):
                self.assert_order(period, 2, (0, 1, period - 1, days, 1), 1 <= days <= period)

    def test_delay_of_an_order(self):
        for delay in range(-2, 13):
            self.assert_order(2, 2, (0, 1, 0, 1, delay), 1 <= delay <= 9)

    def test_one_house_has_no_orders(self):
        self.assertEqual(Net(3, 1, ()).orders, ())
        for order in ((0, 0, 0, 1, 1), (0, 1, 0, 1, 1), (1, 0, 0, 1, 1)):
            self.assert_order(3, 1, order, False)

    def test_twenty_orders_at_most(self):
        self.assertEqual(Net(2, 2, (GOOD,) * 20).orders, (GOOD,) * 20)
        self.assert_invalid(2, 2, (GOOD,) * 21, "orders", 20)
        self.assert_invalid(2, 2, (GOOD,) * 25, "orders", 20)

    def test_a_21st_order_and_an_invalid_one(self):
        self.assert_invalid(2, 2, (GOOD,) * 7 + (None,) + (GOOD,) * 14, "orders", 7)
        self.assert_invalid(2, 2, (GOOD,) * 19 + (None,) + (GOOD,), "orders", 19)
        self.assert_invalid(2, 2, (GOOD,) * 20 + (None,), "orders", 20)
        self.assert_invalid(2, 2, (GOOD,) * 22 + (None,), "orders", 20)

    def test_checked_from_left_to_right(self):
        self.assert_invalid(0, 0, None, "period", 0)
        self.assert_invalid(1, 0, None, "houses", 0)
        self.assert_invalid(31, 2, (GOOD, None), "period", 0)
        self.assert_invalid(30, 11, (GOOD, None), "houses", 0)

    def test_smallest_and_largest_nets(self):
        smallest = Net(1, 1, ())
        self.assertEqual(list(smallest.route(0, 0, 5)), [(0, 0)])
        orders = ((9, 8, 29, 30, 9),) + ((8, 9, 29, 30, 9),) * 19
        largest = Net(30, 10, orders)
        self.assertEqual(largest.orders, orders)
        self.assertEqual(largest.idle_orders, list(range(2, 20)))
        self.assertEqual(list(largest.route(9, 1, 3)), [(9, 1), (8, 10), (9, 19)])


class OrderAt(unittest.TestCase):
    def test_examples(self):
        self.assertEqual(naive.example().order_at(0, 1), 0)
        self.assertIsNone(naive.example().order_at(0, 2))
        self.assertIsNone(naive.example().order_at(2, 0))

    def test_days_beyond_the_end_of_the_period(self):
        net = Net(5, 2, ((0, 1, 3, 4, 1),))
        followed = [net.order_at(0, day) for day in range(12)]
        self.assertEqual(followed, [0, 0, None, 0, 0, 0, 0, None, 0, 0, 0, 0])

    def test_one_day_and_all_days(self):
        net = Net(3, 2, ((0, 1, 2, 1, 1), (1, 0, 2, 3, 1)))
        self.assertEqual([net.order_at(0, day) for day in range(6)], [None, None, 0, None, None, 0])
        self.assertEqual([net.order_at(1, day) for day in range(6)], [1] * 6)

    def test_the_first_valid_order_counts(self):
        net = Net(4, 3, ((1, 2, 0, 4, 1), (0, 1, 1, 2, 3), (0, 2, 2, 2, 1), (0, 1, 0, 4, 9)))
        self.assertEqual([net.order_at(0, day) for day in range(4)], [3, 1, 1, 2])
        self.assertEqual([net.order_at(2, day) for day in range(4)], [None] * 4)

    def test_late_days(self):
        net = Net(7, 2, ((0, 1, 6, 1, 1),))
        last = naive.LAST_DAY
        expected = [0 if day % 7 == 6 else None for day in range(last - 20, last + 1)]
        self.assertEqual([net.order_at(0, day) for day in range(last - 20, last + 1)], expected)

    def test_as_the_model(self):
        for net in naive.random_nets(80):
            for house in range(net.houses):
                for day in list(range(2 * net.period + 1)) + [naive.LAST_DAY]:
                    self.assertEqual(net.order_at(house, day), naive.order_at(net, house, day))

    def test_wrong_arguments(self):
        net = naive.example()
        for house in naive.wrong_houses(net):
            for day in (0, -1, None, naive.LAST_DAY + 1):
                with self.assertRaises(UnknownHouse):
                    net.order_at(house, day)
        for day in naive.WRONG_DAYS:
            with self.assertRaises(InvalidDay):
                net.order_at(2, day)


class Route(unittest.TestCase):
    def test_example(self):
        self.assertEqual(list(naive.example().route(0, 1, 3)), [(0, 1), (1, 2), (0, 4)])

    def test_limits(self):
        whole = [(0, 1), (1, 2), (0, 4), (1, 5), (0, 7)]
        for limit in (-10 ** 20, -2, -1, 0, 1, 2, 3, 4, 5, 6, 100, 10 ** 20):
            with self.subTest(limit=limit):
                self.assertEqual(list(naive.example().route(0, 1, limit)), whole[:max(0, limit)])

    def test_delivered_at_once(self):
        self.assertEqual(list(naive.example().route(2, 3, 4)), [(2, 3)])

    def test_chasing_for_ever(self):
        stops = naive.circle().route(0, 0, 10 ** 30)
        for day in range(1000):
            self.assertEqual(next(stops), (day % 2, day))

    def test_beyond_the_last_day(self):
        last = naive.LAST_DAY
        self.assertEqual(list(naive.circle().route(0, last, 3)), [(0, last), (1, last + 1), (0, last + 2)])

    def test_as_the_model(self):
        for net in naive.random_nets(60):
            for house in range(net.houses):
                for day in range(net.period + 1):
                    for limit in (3, 20):
                        self.assertEqual(list(net.route(house, day, limit)), naive.route(net, house, day, limit))

    def test_errors_come_with_the_first_stop(self):
        net = naive.example()
        for limit in (-1, 0, 1, 5):
            for house in naive.wrong_houses(net):
                for day in (0, -1, None):
                    stops = net.route(house, day, limit)
                    with self.assertRaises(UnknownHouse):
                        next(stops)
            for day in naive.WRONG_DAYS:
                stops = net.route(0, day, limit)
                with self.assertRaises(InvalidDay):
                    next(stops)

    def test_it_is_a_generator(self):
        stops = naive.example().route(0, 1, 2)
        self.assertIs(iter(stops), stops)
        self.assertEqual([next(stops), next(stops)], [(0, 1), (1, 2)])
        with self.assertRaises(StopIteration):
            next(stops)


class IdleOrders(unittest.TestCase):
    def test_examples(self):
        self.assertEqual(Net(2, 2, ((0, 1, 0, 2, 1), (0, 1, 0, 1, 2))).idle_orders, [1])
        self.assertEqual(naive.example().idle_orders, [])
        self.assertEqual(Net(1, 1, ()).idle_orders, [])

    def test_hidden_by_several_orders(self):
        orders = ((0, 1, 0, 2, 1), (0, 1, 2, 2, 1), (0, 2, 0, 4, 1), (1, 2, 0, 4, 1), (0, 2, 3, 2, 1), (1, 0, 3, 1, 1))
        self.assertEqual(Net(4, 3, orders).idle_orders, [2, 4, 5])
        self.assertEqual(Net(5, 3, orders).idle_orders, [2, 5])

    def test_houses_to_which_no_letter_is_forwarded(self):
        self.assertEqual(Net(4, 3, ((0, 1, 3, 1, 1), (2, 1, 0, 1, 1))).idle_orders, [])

    def test_as_the_model(self):
        for net in naive.random_nets(120):
            used = {naive.order_at(net, house, day) for house in range(net.houses) for day in range(net.period)}
            expected = [number for number in range(len(net.orders)) if number not in used]
            self.assertEqual(net.idle_orders, expected)

    def test_new_list(self):
        net = Net(2, 2, ((0, 1, 0, 2, 1), (0, 1, 0, 1, 2)))
        net.idle_orders.append(5)
        self.assertEqual(net.idle_orders, [1])
