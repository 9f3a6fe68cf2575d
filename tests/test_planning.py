"""Which orders must hold longer, and which do harm: point 9."""

import itertools
import random
import unittest

import naive
from chasepost.errors import InvalidLimit
from chasepost.nets import Net
from chasepost.planning import harmful_orders, plan_days

EXAMPLE = (2, 3, ((0, 2, 0, 1, 1), (0, 1, 0, 2, 1), (1, 0, 0, 2, 1)))
WRONG_LIMITS = (-1, 4, 5, -3, 10 ** 18, 10 ** 5000, "3", "a", [0], [1, 2], (3,)) + naive.NO_INTEGERS
LONGEST = ((0, 1, 0, 30, 9), (1, 0, 0, 30, 9))


def exits(days, period):
    """Return a net in which letters circle and are at house 0 on the same day of a period of up to ten days each time.

    The first order takes them out of the circle there on so many of these days.
    """
    return Net(period, 3, ((0, 2, 0, days, 1), (0, 1, 0, period, period - 1), (1, 0, 0, period, 1)))


def two_circles(period, days):
    """Return a net with two circles that have nothing in common; one order leads out of each of them.

    The orders 1 and 4 lead out of them, the order 3 leads nowhere.
    """
    return Net(period, 6, (
        (5, 4, 0, 1, 1),
        (0, 4, 0, days[0], 1),
        (0, 1, 0, period, period - 1),
        (5, 4, 0, 1, 1),
        (2, 4, 0, days[1], 1),
        (2, 3, 0, period, period - 1),
        (1, 0, 0, period, 1),
        (3, 2, 0, period, 1),
    ))


def naive_plan(net, limit):
    for size in range(limit + 1):
        plans = sorted(itertools.combinations_with_replacement(range(len(net.orders)), size))
        for plan in plans:
            changed = naive.change_days(net, [plan.count(number) for number in range(len(net.orders))])
            if changed is not None and naive.count_chasing(changed) == 0:
                return plan
    return None


def circle_net(seed):
    """Return a net with a circle and some orders that lead out of it on some days; the same net for the same seed."""
    chance = random.Random(seed)
    period = chance.randint(2, 5)
    exits = [
        (chance.randint(0, 1), chance.randint(2, 3), chance.randrange(period), chance.randint(1, period - 1), 1)
        for count in range(chance.randint(1, 4))
    ]
    delay = chance.randint(1, 4)
    back = chance.choice((1, 2, 2 * period - delay % period))
    orders = exits + [(0, 1, 0, period, delay), (1, 0, 0, period, back)]
    if chance.randint(0, 1):
        orders.insert(0, (3, 0, chance.randrange(period), chance.randint(1, period), 1))
    if chance.randint(0, 3) == 0:
        chance.shuffle(orders)
    return Net(period, 4, tuple(orders))


class PlanDays(unittest.TestCase):
    def test_example(self):
        self.assertEqual(plan_days(Net(*EXAMPLE), 1), (0,))

    def test_no_letter_chases(self):
        for net in (naive.example(), Net(1, 1, ()), Net(30, 10, ()), Net(2, 2, ((0, 1, 0, 2, 1),))):
            for limit in range(4):
                self.assertEqual(plan_days(net, limit), ())

    def test_the_same_number_more_than_once(self):
        for days, plan in ((1, (0, 0, 0)), (2, (0, 0)), (3, (0,)), (4, ())):
            net = exits(days, 4)
            for limit in range(4):
                self.assertEqual(plan_days(net, limit), plan if len(plan) <= limit else None)

    def test_more_numbers_than_the_highest_limit(self):
        self.assertIsNone(plan_days(exits(1, 5), 3))
        self.assertEqual(plan_days(exits(2, 5), 3), (0, 0, 0))

    def test_several_orders(self):
        for days, plan in (
            ((2, 3), (1,)), ((3, 2), (4,)), ((2, 2), (1, 4)), ((1, 2), (1, 1, 4)), ((2, 1), (1, 4, 4)),
        ):
            net = two_circles(3, days)
            for limit in range(4):
                self.assertEqual(plan_days(net, limit), plan if len(plan) <= limit else None)
        self.assertIsNone(plan_days(two_circles(3, (1, 1)), 3))

    def test_the_days_are_added_at_the_end(self):
        # Only the letters of day 0 chase; day 0 comes behind the day 3 of order 0, and before the day 1 of order 1.
        net = Net(4, 3, ((0, 2, 1, 2, 1), (0, 2, 3, 1, 1), (0, 1, 0, 4, 3), (1, 0, 0, 4, 1)))
        self.assertEqual(plan_days(net, 3), (1,))
        net = Net(4, 3, ((0, 2, 1, 3, 1), (0, 1, 0, 4, 3), (1, 0, 0, 4, 1)))
        self.assertEqual(plan_days(net, 3), (0,))

    def test_days_beyond_the_end_of_the_period(self):
        net = Net(4, 3, ((0, 2, 3, 3, 1), (0, 1, 0, 4, 3), (1, 0, 0, 4, 1)))
        self.assertEqual(plan_days(net, 1), (0,))

    def test_ties(self):
        # The orders 1 and 2 are the same, and each of them is enough.
        net = Net(2, 4, ((3, 2, 0, 1, 1), (0, 2, 1, 1, 1), (0, 2, 1, 1, 1), (0, 1, 0, 2, 1), (1, 0, 0, 2, 1)))
        self.assertEqual(plan_days(net, 1), (1,))

    def test_ties_of_two_numbers(self):
        # Two days are missing. The orders 0 and 3 bring one each, and so do the orders 1 and 2.
        net = Net(4, 3, (
            (0, 2, 3, 1, 1), (0, 2, 3, 1, 1), (0, 2, 1, 1, 1), (0, 2, 1, 1, 1), (0, 1, 0, 4, 3), (1, 0, 0, 4, 1),
        ))
        self.assertEqual(plan_days(net, 3), (0, 2))
        net = two_circles(2, (1, 1))
        doubled = Net(2, 6, net.orders[1:2] + net.orders)
        self.assertEqual(plan_days(doubled, 3), (0, 5))

    def test_a_shorter_plan_wins_over_an_earlier_one(self):
        # The orders 0 and 0 bring both missing days as well, but the order 1 alone is shorter.
        net = Net(3, 3, ((0, 2, 0, 1, 1), (0, 2, 1, 1, 1), (0, 2, 0, 1, 1), (0, 1, 0, 3, 2), (1, 0, 0, 3, 1)))
        self.assertEqual(plan_days(net, 3), (1,))
        self.assertEqual(plan_days(net, 1), (1,))

    def test_orders_that_hold_on_all_days(self):
        for limit in range(4):
            self.assertIsNone(plan_days(naive.circle(), limit))
            self.assertIsNone(plan_days(Net(30, 2, LONGEST), limit))
        # The order 0 can hold on one more day only, and two are missing.
        net = Net(3, 4, ((0, 2, 0, 2, 1), (0, 1, 0, 3, 2), (1, 0, 0, 3, 1), (3, 1, 0, 1, 1)))
        self.assertEqual(plan_days(net, 3), (0,))
        self.assertIsNone(plan_days(Net(3, 4, net.orders[1:]), 3))

    def test_an_order_that_holds_on_all_days_beside_others(self):
        net = Net(2, 3, ((2, 1, 0, 2, 1), (1, 2, 1, 1, 1), (1, 0, 0, 2, 1)))
        self.assertEqual(plan_days(net, 3), naive_plan(net, 3))

    def test_longer_orders_can_make_letters_chase(self):
        # More days of order 0 lead more letters into the circle of the houses 1 and 2.
        net = Net(2, 4, ((0, 1, 0, 1, 1), (0, 3, 0, 2, 1), (1, 3, 0, 1, 1), (1, 2, 0, 2, 1), (2, 1, 0, 2, 1)))
        self.assertEqual(plan_days(net, 3), (2,))

    def test_none_with_each_limit(self):
        net = exits(1, 6)
        for limit in range(4):
            self.assertIsNone(plan_days(net, limit))

    def test_twenty_orders(self):
        net = Net(30, 2, ((0, 1, 0, 30, 9),) + ((1, 0, 0, 30, 9),) * 19)
        self.assertIsNone(plan_days(net, 3))
        for days, plan in ((14, None), (15, (1, 1, 1)), (17, (1,))):
            orders = ((0, 1, 0, 18, 9), (1, 2, 0, days, 9), (1, 0, 0, 18, 9)) + ((0, 1, 0, 1, 1),) * 17
            self.assertEqual(plan_days(Net(18, 3, orders), 3), plan)

    def test_as_the_model(self):
        found = set()
        for net in [circle_net(seed) for seed in range(800)] + naive.random_nets(20):
            for limit in range(4 if len(net.orders) < 8 else 2):
                plan = naive_plan(net, limit)
                self.assertEqual(plan_days(net, limit), plan)
                found.add(plan)
        self.assertLessEqual({None, (), (0,), (1, 1), (1, 2), (2, 2, 2), (1, 2, 2)}, found)

    def test_wrong_limits(self):
        for net in (Net(*EXAMPLE), naive.example(), naive.circle(), Net(1, 1, ())):
            for limit in WRONG_LIMITS:
                with self.assertRaises(InvalidLimit):
                    plan_days(net, limit)

    def test_the_net_is_as_before(self):
        net = Net(*EXAMPLE)
        plan_days(net, 3)
        harmful_orders(net)
        self.assertEqual((net.period, net.houses, net.orders), EXAMPLE)
        self.assertEqual([net.order_at(0, 0), net.order_at(0, 1)], [0, 1])


class HarmfulOrders(unittest.TestCase):
    def test_example(self):
        self.assertEqual(harmful_orders(Net(*EXAMPLE)), [1, 2])

    def test_none(self):
        self.assertEqual(harmful_orders(Net(1, 1, ())), [])
        self.assertEqual(harmful_orders(naive.example()), [])

    def test_none_although_letters_chase(self):
        # Each order of the circle stands there twice, so that none of them can be missed.
        net = Net(2, 2, naive.CIRCLE[2] * 2)
        self.assertEqual(harmful_orders(net), [])

    def test_one(self):
        net = Net(2, 2, naive.CIRCLE[2] + naive.CIRCLE[2][1:])
        self.assertEqual(harmful_orders(net), [0])

    def test_all(self):
        self.assertEqual(harmful_orders(naive.circle()), [0, 1])

    def test_as_many_letters_chase_without_an_order(self):
        # Without the order 1 the letters of house 2 are delivered there; without the order 3 nothing changes.
        net = Net(2, 4, ((0, 1, 0, 2, 1), (2, 0, 0, 1, 1), (1, 0, 0, 2, 1), (3, 2, 1, 1, 2), (3, 2, 0, 2, 2)))
        self.assertEqual(harmful_orders(net), [0, 1, 2, 4])

    def test_more_letters_chase_without_an_order(self):
        # The order 0 takes letters out of the circle: without it more of them chase.
        net = Net(2, 3, ((0, 2, 0, 1, 1), (0, 1, 0, 2, 1), (1, 0, 0, 2, 1)))
        changed = Net(2, 3, net.orders[1:])
        self.assertGreater(naive.count_chasing(changed), naive.count_chasing(net))
        self.assertNotIn(0, harmful_orders(net))

    def test_one_letter_less_is_enough(self):
        net = Net(3, 3, ((2, 0, 1, 1, 1), (0, 1, 0, 3, 1), (1, 0, 0, 3, 2)))
        self.assertEqual(harmful_orders(net), [0, 1, 2])

    def test_an_order_that_hides_a_way_out(self):
        net = Net(1, 3, ((0, 1, 0, 1, 1), (0, 2, 0, 1, 1), (1, 0, 0, 1, 1)))
        self.assertEqual(harmful_orders(net), [0, 2])

    def test_as_the_model(self):
        for net in naive.random_nets(150):
            present = naive.count_chasing(net)
            expected = [
                number for number in range(len(net.orders))
                if naive.count_chasing(Net(net.period, net.houses, net.orders[:number] + net.orders[number + 1:]))
                < present
            ]
            self.assertEqual(harmful_orders(net), expected)

    def test_new_list(self):
        net = Net(*EXAMPLE)
        harmful_orders(net).append(0)
        harmful_orders(net).clear()
        self.assertEqual(harmful_orders(net), [1, 2])
        harmful_orders(naive.example()).append(0)
        self.assertEqual(harmful_orders(naive.example()), [])
