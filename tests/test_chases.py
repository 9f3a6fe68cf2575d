"""Results of letters, their whereabouts and loops: points 5 to 7."""

import unittest

import naive
from chasepost.chases import count_hops, day_sets, destination, loops, slowest, where
from chasepost.errors import InvalidDay, UnknownHouse
from chasepost.nets import Net

LAST = naive.LAST_DAY
# A letter from house 0 comes to house 1 after three days, and then circles for ever through houses 1, 2 and 3.
TAIL = (5, 4, ((0, 1, 0, 5, 3), (1, 2, 0, 5, 4), (2, 3, 0, 5, 2), (3, 1, 0, 5, 9)))


class Destination(unittest.TestCase):
    def test_examples(self):
        self.assertEqual(destination(naive.example(), 0, 1), (0, 7))
        self.assertIsNone(destination(naive.circle(), 0, 0))

    def test_at_once_and_later(self):
        net = naive.example()
        self.assertEqual(destination(net, 0, 2), (0, 2))
        self.assertEqual(destination(net, 1, 0), (2, 3))
        self.assertEqual(destination(net, 2, 9), (2, 9))
        self.assertEqual(destination(Net(1, 1, ()), 0, 5), (0, 5))

    def test_the_whole_way_through_many_stops(self):
        # Letters go round through all ten houses; the only end is house 9 on the last day of the period.
        orders = tuple((house, (house + 1) % 10, 0, 30, 9) for house in range(9))
        orders += ((9, 0, 0, 29, 9),)
        net = Net(30, 10, orders)
        for house in range(10):
            for day in range(30):
                self.assertEqual(destination(net, house, day), naive.destination(net, house, day))
        self.assertIn(True, [naive.destination(net, 0, day) is None for day in range(30)])

    def test_late_days(self):
        net = naive.example()
        self.assertEqual(LAST % 4, 0)
        self.assertEqual(destination(net, 0, LAST - 3), (0, LAST + 3))
        self.assertEqual(destination(net, 1, LAST), (2, LAST + 3))
        self.assertEqual(destination(net, 2, LAST), (2, LAST))
        self.assertIsNone(destination(naive.circle(), 1, LAST))

    def test_as_the_model(self):
        for net in naive.random_nets(150):
            for house in range(net.houses):
                for day in range(net.period + 2):
                    self.assertEqual(destination(net, house, day), naive.destination(net, house, day))


class DaySets(unittest.TestCase):
    def test_example(self):
        self.assertEqual(day_sets(naive.example(), 0), ([0, 1, 2, 3], [], [0, 1]))

    def test_chasing_letters(self):
        self.assertEqual(day_sets(naive.circle(), 1), ([], [0, 1], [0, 1]))
        self.assertEqual(day_sets(Net(*TAIL), 0), ([], [0, 1, 2, 3, 4], []))
        self.assertEqual(day_sets(Net(*TAIL), 2), ([], [0, 1, 2, 3, 4], [0, 1, 2, 3, 4]))

    def test_letters_that_come_back_to_be_delivered(self):
        net = Net(3, 2, ((0, 1, 0, 1, 1), (1, 0, 1, 1, 1)))
        self.assertEqual(day_sets(net, 0), ([0, 1, 2], [], [0]))
        self.assertEqual(day_sets(net, 1), ([0, 1, 2], [], []))

    def test_letters_that_come_back_before_they_end_elsewhere(self):
        net = Net(4, 3, ((0, 1, 0, 1, 1), (1, 0, 1, 1, 1), (0, 2, 2, 1, 1)))
        self.assertEqual(day_sets(net, 0), ([0, 1, 2, 3], [], [0]))

    def test_letters_that_come_back_once_before_they_chase(self):
        net = Net(4, 4, ((0, 1, 0, 1, 1), (1, 0, 1, 1, 1), (0, 2, 2, 1, 1), (2, 3, 0, 4, 1), (3, 2, 0, 4, 1)))
        self.assertEqual(day_sets(net, 0), ([1, 3], [0, 2], [0]))

    def test_letters_that_are_delivered_at_once_do_not_come_back(self):
        self.assertEqual(day_sets(Net(3, 1, ()), 0), ([0, 1, 2], [], []))

    def test_as_the_model(self):
        for net in naive.random_nets(120):
            days = range(net.period)
            for house in range(net.houses):
                chasing = [day for day in days if naive.chases(net, house, day)]
                delivered = [day for day in days if day not in chasing]
                returning = [
                    day for day in days
                    if house in [stop[0] for stop in naive.whole_route(net, house, day)[1:]]
                ]
                self.assertEqual(day_sets(net, house), (delivered, chasing, returning))

    def test_new_lists(self):
        net = naive.example()
        for days in day_sets(net, 0):
            days.append(9)
        self.assertEqual(day_sets(net, 0), ([0, 1, 2, 3], [], [0, 1]))
        self.assertIsInstance(day_sets(net, 0), tuple)

    def test_unknown_houses(self):
        net = naive.example()
        for house in naive.wrong_houses(net):
            with self.assertRaises(UnknownHouse):
                day_sets(net, house)


class Slowest(unittest.TestCase):
    def test_example(self):
        self.assertEqual(slowest(naive.example()), (6, 0, 1))

    def test_ties(self):
        self.assertEqual(slowest(Net(3, 3, ())), (0, 0, 0))
        self.assertEqual(slowest(Net(3, 3, ((1, 0, 1, 2, 4), (2, 0, 0, 3, 4)))), (4, 1, 1))
        self.assertEqual(slowest(Net(3, 3, ((1, 0, 1, 2, 4), (2, 0, 0, 3, 5)))), (5, 2, 0))

    def test_no_delivered_letter(self):
        self.assertIsNone(slowest(naive.circle()))

    def test_letters_that_chase_do_not_count(self):
        net = Net(2, 4, ((0, 1, 0, 2, 9), (1, 0, 0, 2, 9), (3, 2, 1, 1, 1)))
        self.assertEqual(slowest(net), (1, 3, 1))

    def test_only_delivered_at_once(self):
        self.assertEqual(slowest(Net(2, 3, ((0, 1, 0, 2, 1), (1, 0, 0, 2, 1)))), (0, 2, 0))

    def test_as_the_model(self):
        for net in naive.random_nets(150):
            best = None
            for house in range(net.houses):
                for day in range(net.period):
                    end = naive.destination(net, house, day)
                    if end is not None and (best is None or end[1] - day > best[0]):
                        best = (end[1] - day, house, day)
            self.assertEqual(slowest(net), best)


class Where(unittest.TestCase):
    def test_examples(self):
        net = naive.example()
        self.assertEqual([where(net, 0, 1, 3), where(net, 0, 1, 4)], [("way", 1, 0, 1), ("house", 0)])

    def test_day_by_day(self):
        places = [where(naive.example(), 0, 1, later) for later in range(10)]
        self.assertEqual(places, [
            None, ("house", 0), ("house", 1), ("way", 1, 0, 1), ("house", 0), ("house", 1), ("way", 1, 0, 1),
            ("delivered", 0), ("delivered", 0), ("delivered", 0),
        ])

    def test_delivered_at_once(self):
        places = [where(naive.example(), 2, 5, later) for later in (0, 4, 5, 6, LAST)]
        self.assertEqual(places, [None, None] + [("delivered", 2)] * 3)

    def test_long_ways(self):
        net = Net(1, 2, ((0, 1, 0, 1, 9),))
        places = [where(net, 0, 2, later) for later in range(1, 13)]
        expected = [None, ("house", 0)] + [("way", 0, 1, 9 - days) for days in range(1, 9)] + [("delivered", 1)] * 2
        self.assertEqual(places, expected)

    def test_late_days_of_chasing_letters(self):
        net = naive.circle()
        self.assertEqual(where(net, 0, 0, LAST), ("house", 0))
        self.assertEqual(where(net, 0, 0, LAST - 1), ("house", 1))
        self.assertEqual(where(net, 0, 1, LAST), ("house", 1))
        self.assertEqual(where(net, 1, LAST, LAST), ("house", 1))
        self.assertIsNone(where(net, 1, LAST, LAST - 1))

    def test_late_days_behind_a_tail(self):
        net = Net(*TAIL)
        # The letter is at house 1 on day 3 and again every 15 days, as this is a multiple of the period.
        for later in range(3, 33):
            days = (later - 3) % 15
            if days < 4:
                place = ("house", 1) if days == 0 else ("way", 1, 2, 4 - days)
            elif days < 6:
                place = ("house", 2) if days == 4 else ("way", 2, 3, 6 - days)
            else:
                place = ("house", 3) if days == 6 else ("way", 3, 1, 15 - days)
            for far in (0, 15, 15 * (LAST // 15 - 3)):
                self.assertEqual(where(net, 0, 0, later + far), place)

    def test_as_the_model(self):
        for net in naive.random_nets(80):
            for house in range(net.houses):
                for day in (0, net.period - 1, net.period):
                    expected = [entry[0] for entry in naive.diary(net, house, day, 90)]
                    self.assertEqual([where(net, house, day, later) for later in range(91)], expected)

    def test_as_the_model_far_away(self):
        for net in naive.random_nets(10):
            for house in range(net.houses):
                entries = naive.diary(net, house, 1, 2000)
                for later in range(1900, 2001, 7):
                    self.assertEqual(where(net, house, 1, later), entries[later][0])
                    self.assertEqual(count_hops(net, house, 1, later), entries[later][1])


class CountHops(unittest.TestCase):
    def test_example(self):
        self.assertEqual(count_hops(naive.example(), 0, 1, 4), 3)

    def test_day_by_day(self):
        hops = [count_hops(naive.example(), 0, 1, later) for later in range(10)]
        self.assertEqual(hops, [0, 1, 2, 2, 3, 4, 4, 4, 4, 4])

    def test_delivered_at_once(self):
        self.assertEqual([count_hops(naive.example(), 2, 5, later) for later in (0, 4, 5, 6, LAST)], [0] * 5)

    def test_late_days_of_chasing_letters(self):
        net = naive.circle()
        self.assertEqual(count_hops(net, 0, 0, LAST), LAST + 1)
        self.assertEqual(count_hops(net, 1, 7, LAST - 1), LAST - 7)
        self.assertEqual(count_hops(net, 1, LAST, LAST), 1)
        self.assertEqual(count_hops(net, 1, LAST, 0), 0)
        self.assertEqual(count_hops(Net(*TAIL), 0, 0, 3 + 15 * 10 ** 15), 2 + 3 * 10 ** 15)
        self.assertEqual(count_hops(Net(*TAIL), 0, 0, 2 + 15 * 10 ** 15), 1 + 3 * 10 ** 15)

    def test_as_the_model(self):
        for net in naive.random_nets(80):
            for house in range(net.houses):
                for day in (0, net.period - 1, net.period):
                    expected = [entry[1] for entry in naive.diary(net, house, day, 90)]
                    self.assertEqual([count_hops(net, house, day, later) for later in range(91)], expected)


class Loops(unittest.TestCase):
    def test_example(self):
        self.assertEqual(loops(naive.circle()), [[(0, 0), (1, 1)], [(0, 1), (1, 0)]])

    def test_no_loop(self):
        self.assertEqual(loops(naive.example()), [])
        self.assertEqual(loops(Net(1, 1, ())), [])

    def test_one_loop(self):
        # The stops stand in the order of the letter, which is not the one of their numbers.
        net = Net(4, 4, ((2, 1, 1, 1, 2), (1, 3, 3, 1, 1), (3, 2, 0, 1, 1), (0, 2, 0, 1, 1)))
        self.assertEqual(loops(net), [[(1, 3), (3, 0), (2, 1)]])

    def test_one_loop_over_a_house_twice(self):
        net = Net(5, 2, ((0, 1, 0, 5, 1), (1, 0, 0, 5, 1)))
        self.assertEqual(loops(net), [[
            (0, 0), (1, 1), (0, 2), (1, 3), (0, 4), (1, 0), (0, 1), (1, 2), (0, 3), (1, 4),
        ]])

    def test_several_loops_in_order(self):
        net = Net(2, 5, ((4, 1, 0, 2, 2), (1, 4, 0, 2, 2), (3, 2, 1, 1, 1), (2, 3, 0, 1, 1)))
        self.assertEqual(loops(net), [[(1, 0), (4, 0)], [(1, 1), (4, 1)], [(2, 0), (3, 1)]])

    def test_letters_on_their_way_to_a_loop_are_not_in_it(self):
        self.assertEqual([stop for loop in loops(Net(*TAIL)) for stop in loop if stop[0] == 0], [])

    def test_as_the_model(self):
        for net in naive.random_nets(150):
            found = []
            for house in range(net.houses):
                for day in range(net.period):
                    stops = [(stop[0], stop[1] % net.period) for stop in naive.whole_route(net, house, day)]
                    if stops[0] in stops[1:]:
                        loop = stops[:stops.index(stops[0], 1)]
                        if min(loop) == stops[0]:
                            found.append(loop)
            self.assertEqual(loops(net), sorted(found))

    def test_new_lists(self):
        net = naive.circle()
        loops(net)[0].append((9, 9))
        loops(net).append([])
        self.assertEqual(loops(net), [[(0, 0), (1, 1)], [(0, 1), (1, 0)]])


class WrongArguments(unittest.TestCase):
    def test_destination(self):
        net = naive.example()
        for house in naive.wrong_houses(net):
            for day in (0, -1, None):
                with self.assertRaises(UnknownHouse):
                    destination(net, house, day)
        for day in naive.WRONG_DAYS:
            with self.assertRaises(InvalidDay):
                destination(net, 2, day)

    def test_where_and_count_hops(self):
        net = naive.example()
        for function in (where, count_hops):
            for house in naive.wrong_houses(net):
                for day, later in ((0, 0), (-1, 0), (0, None), (None, "x")):
                    with self.assertRaises(UnknownHouse):
                        function(net, house, day, later)
            for day in naive.WRONG_DAYS:
                for later in (0, -1, None, LAST):
                    with self.assertRaises(InvalidDay):
                        function(net, 1, day, later)
                with self.assertRaises(InvalidDay):
                    function(net, 1, 0, day)
                with self.assertRaises(InvalidDay):
                    function(net, 1, 5, day)
