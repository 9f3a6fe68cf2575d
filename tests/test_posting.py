"""When letters must be posted, and how many are delivered: point 8."""

import unittest

import naive
from chasepost.chases import destination
from chasepost.errors import InvalidDay, UnknownHouse
from chasepost.nets import Net
from chasepost.posting import count_deliveries, last_posting, senders

LAST = naive.LAST_DAY
LAST_TESTED = 40
# Letters go round through all ten houses in 89 days, one day less than three periods, so that a letter comes back to
# house 9 a day of the period earlier each time, until it comes there on day 29, on which no order holds.
LONG_WAY = (30, 10, tuple(
    (house, house + 1, 0, 30, 9) for house in range(9)
) + ((9, 0, 0, 29, 8),))
# Letters from houses 0 and 1 circle for ever; house 2 is left on even days only.
APART = (2, 3, ((0, 1, 0, 2, 1), (1, 0, 0, 2, 1), (2, 0, 0, 1, 1)))


class LastPosting(unittest.TestCase):
    def test_example(self):
        self.assertEqual(last_posting(naive.example(), 1, 2, 10), 4)

    def test_each_day(self):
        net = naive.example()
        # Letters of the days 0, 4, 8 .. come from house 1 to house 2 three days later.
        days = [last_posting(net, 1, 2, day) for day in range(13)]
        self.assertEqual(days, [None, None, None, 0, 0, 0, 0, 4, 4, 4, 4, 8, 8])

    def test_delivered_at_once_on_the_day_itself(self):
        net = naive.example()
        self.assertEqual([last_posting(net, 2, 2, day) for day in (0, 1, 5, LAST)], [0, 1, 5, LAST])
        self.assertEqual([last_posting(net, 0, 0, day) for day in (2, 3, 6, 7)], [2, 3, 6, 7])
        self.assertEqual(last_posting(Net(1, 1, ()), 0, 0, 0), 0)

    def test_same_house_on_days_on_which_it_is_left(self):
        net = naive.example()
        self.assertEqual([last_posting(net, 0, 0, day) for day in (0, 1, 4, 5, 8, 9)], [None, None, 3, 3, 7, 7])

    def test_posted_long_before(self):
        net = Net(5, 4, ((0, 1, 0, 1, 9), (1, 2, 4, 1, 8), (2, 3, 2, 1, 9)))
        self.assertEqual(destination(net, 0, 0), (3, 26))
        self.assertEqual([last_posting(net, 0, 3, day) for day in (25, 26, 30, 31)], [None, 0, 0, 5])
        self.assertEqual(last_posting(net, 0, 3, LAST - 5 + 1), LAST - 30)
        self.assertEqual(last_posting(net, 0, 3, LAST - 5), LAST - 35)

    def test_the_longest_ways(self):
        net = Net(*LONG_WAY)
        ways = [naive.destination(net, 0, day)[1] - day for day in range(30)]
        longest = max(ways)
        self.assertGreater(longest, 2500)
        for day in (longest - 1, longest, longest + 1, longest + 17, longest + 29, longest + 30):
            days = [posted for posted in range(day + 1) if posted + ways[posted % 30] <= day]
            self.assertEqual(last_posting(net, 0, 9, day), max(days))

    def test_a_later_letter_overtakes(self):
        # A letter of an even day takes nine days; one of the following day takes one day only.
        net = Net(2, 2, ((0, 1, 0, 1, 9), (0, 1, 1, 1, 1)))
        self.assertEqual([last_posting(net, 0, 1, day) for day in (1, 2, 3, 8, 9, 10)], [None, 1, 1, 7, 7, 9])

    def test_too_early(self):
        self.assertIsNone(last_posting(naive.example(), 1, 2, 2))
        self.assertIsNone(last_posting(naive.example(), 0, 0, 0))
        self.assertIsNone(last_posting(Net(30, 2, ((0, 1, 29, 1, 9),)), 0, 1, 37))
        self.assertEqual(last_posting(Net(30, 2, ((0, 1, 29, 1, 9),)), 0, 1, 38), 29)

    def test_never_delivered_at_the_goal(self):
        for day in (0, 50, LAST):
            self.assertIsNone(last_posting(naive.circle(), 0, 1, day))
            self.assertIsNone(last_posting(naive.circle(), 1, 1, day))
            self.assertIsNone(last_posting(naive.example(), 2, 0, day))
            self.assertIsNone(last_posting(Net(*APART), 2, 0, day))

    def test_late_days(self):
        net = naive.example()
        self.assertEqual(LAST % 4, 0)
        self.assertEqual(last_posting(net, 1, 2, LAST), LAST - 4)
        self.assertEqual(last_posting(net, 1, 2, LAST - 1), LAST - 4)
        self.assertEqual(last_posting(net, 1, 2, LAST - 2), LAST - 8)

    def test_as_the_model(self):
        for net in naive.random_nets(60):
            letters = naive.letters(net, LAST_TESTED)
            for house in range(net.houses):
                for goal in range(net.houses):
                    arrivals = [
                        (posted, end[1]) for source, posted, end in letters
                        if source == house and end is not None and end[0] == goal
                    ]
                    for day in range(LAST_TESTED + 1):
                        days = [posted for posted, arrival in arrivals if arrival <= day]
                        self.assertEqual(last_posting(net, house, goal, day), max(days, default=None))


class Senders(unittest.TestCase):
    def test_example(self):
        self.assertEqual(senders(naive.example(), 0, 7), [(0, 1), (0, 4), (0, 7), (1, 2), (1, 5)])

    def test_no_day_before_the_first_one(self):
        net = naive.example()
        self.assertEqual(senders(net, 0, 3), [(0, 0), (0, 3), (1, 1)])
        self.assertEqual(senders(net, 2, 2), [(2, 2)])
        self.assertEqual(senders(net, 2, 3), [(1, 0), (2, 3)])

    def test_delivered_at_once(self):
        for day in (0, 1, 7, LAST):
            self.assertEqual(senders(Net(2, 3, ()), 1, day), [(1, day)])
        self.assertEqual(senders(naive.example(), 1, 0), [])
        self.assertEqual(senders(Net(1, 2, ((0, 1, 0, 1, 1),)), 1, 0), [(1, 0)])
        self.assertEqual(senders(Net(1, 2, ((0, 1, 0, 1, 1),)), 1, 1), [(0, 0), (1, 1)])

    def test_none_at_all(self):
        for day in (0, 9, LAST):
            for goal in (0, 1):
                self.assertEqual(senders(naive.circle(), goal, day), [])
        # An order holds at house 0 on these days, so nothing is delivered there.
        net = naive.example()
        for day in (0, 1, 4, 5, LAST):
            self.assertEqual(senders(net, 0, day), [])

    def test_houses_in_order(self):
        net = Net(1, 4, ((0, 3, 0, 1, 2), (2, 3, 0, 1, 5), (1, 2, 0, 1, 1)))
        self.assertEqual(senders(net, 3, 10), [(0, 8), (1, 4), (2, 5), (3, 10)])
        self.assertEqual(senders(net, 3, 5), [(0, 3), (2, 0), (3, 5)])

    def test_long_ways(self):
        net = Net(*LONG_WAY)
        # Every letter of the net is delivered at house 9 on a day 29 of a period, so all lengths of ways occur here.
        day = LAST - (LAST - 29) % 30
        found = senders(net, 9, day)
        self.assertEqual(len(found), 300)
        self.assertEqual(found, sorted(found))
        self.assertGreater(day - min(posted for house, posted in found), 2500)
        for house, posted in found:
            self.assertEqual(destination(net, house, posted), (9, day))
        self.assertEqual(senders(net, 9, day - 1), [])

    def test_late_days(self):
        net = naive.example()
        far = LAST - 8
        self.assertEqual(far % 4, 0)
        expected = [(house, posted + far) for house, posted in senders(net, 0, 7)]
        self.assertEqual(senders(net, 0, LAST - 1), expected)
        self.assertEqual(senders(net, 2, LAST), [(2, LAST)])
        self.assertEqual(senders(net, 2, LAST - 1), [(1, LAST - 4), (2, LAST - 1)])

    def test_as_the_model(self):
        for net in naive.random_nets(100):
            letters = naive.letters(net, LAST_TESTED)
            for goal in range(net.houses):
                for day in range(LAST_TESTED + 1):
                    expected = [(house, posted) for house, posted, end in letters if end == (goal, day)]
                    self.assertEqual(senders(net, goal, day), expected)

    def test_new_list(self):
        net = naive.example()
        expected = [(0, 1), (0, 4), (0, 7), (1, 2), (1, 5)]
        senders(net, 0, 7).append((9, 9))
        senders(net, 0, 7).clear()
        self.assertEqual(senders(net, 0, 7), expected)
        senders(naive.circle(), 0, 7).append((9, 9))
        self.assertEqual(senders(naive.circle(), 0, 7), [])


class CountDeliveries(unittest.TestCase):
    def test_example(self):
        self.assertEqual(count_deliveries(naive.example(), 1, 2, 0, 9), 3)

    def test_first_day_beyond_the_last_one(self):
        net = naive.example()
        for first, last in ((1, 0), (9, 4), (LAST, LAST - 1), (LAST, 0), (100, 1)):
            self.assertEqual(count_deliveries(net, 2, 2, first, last), 0)
            self.assertEqual(count_deliveries(net, 1, 2, first, last), 0)

    def test_the_same_day_twice(self):
        net = naive.example()
        self.assertEqual([count_deliveries(net, 1, 2, day, day) for day in range(9)], [1, 0, 0, 0, 1, 0, 0, 0, 1])
        self.assertEqual(count_deliveries(net, 1, 2, LAST, LAST), 1)
        self.assertEqual(count_deliveries(net, 1, 2, LAST - 1, LAST - 1), 0)

    def test_within_one_period(self):
        net = naive.example()
        self.assertEqual(count_deliveries(net, 1, 2, 0, 3), 1)
        self.assertEqual(count_deliveries(net, 1, 2, 1, 3), 0)
        self.assertEqual(count_deliveries(net, 1, 2, 3, 5), 1)
        self.assertEqual(count_deliveries(net, 0, 0, 0, 2), 3)

    def test_several_periods(self):
        net = naive.example()
        self.assertEqual(count_deliveries(net, 1, 2, 1, 12), 3)
        self.assertEqual(count_deliveries(net, 1, 2, 1, 11), 2)
        self.assertEqual(count_deliveries(net, 1, 2, 4, 12), 3)

    def test_the_days_are_those_of_posting(self):
        # The letters of the days 29, 59 .. are delivered in a later period than they are posted in.
        net = Net(30, 2, ((0, 1, 29, 1, 9),))
        self.assertEqual(count_deliveries(net, 0, 1, 0, 28), 0)
        self.assertEqual(count_deliveries(net, 0, 1, 0, 29), 1)
        self.assertEqual(count_deliveries(net, 0, 1, 30, 58), 0)

    def test_same_house(self):
        # The letters of the days 0, 4, 8 .. come back to house 0; those of the days 3, 7, 11 .. end at house 2.
        net = Net(4, 3, ((0, 1, 0, 1, 1), (1, 0, 1, 1, 1), (0, 2, 3, 1, 1)))
        self.assertEqual(count_deliveries(net, 0, 0, 0, 9), 8)
        self.assertEqual(count_deliveries(net, 1, 1, 0, 9), 7)
        self.assertEqual(count_deliveries(net, 1, 0, 0, 9), 3)
        self.assertEqual(count_deliveries(net, 0, 2, 0, 9), 2)

    def test_letters_that_chase_do_not_count(self):
        self.assertEqual(count_deliveries(naive.circle(), 0, 0, 0, LAST), 0)
        self.assertEqual(count_deliveries(Net(*APART), 2, 2, 0, 9), 5)
        self.assertEqual(count_deliveries(Net(*APART), 2, 0, 0, 9), 0)

    def test_very_long_ranges(self):
        net = naive.example()
        self.assertEqual(count_deliveries(net, 2, 2, 0, LAST), LAST + 1)
        self.assertEqual(count_deliveries(net, 1, 2, 0, LAST), LAST // 4 + 1)
        self.assertEqual(count_deliveries(net, 1, 2, 0, LAST - 1), LAST // 4)
        self.assertEqual(count_deliveries(net, 1, 2, 1, LAST), LAST // 4)
        self.assertEqual(count_deliveries(net, 0, 0, 3, LAST), LAST - 2)
        odd = Net(7, 2, ((0, 1, 2, 3, 4),))
        self.assertEqual(
            count_deliveries(odd, 0, 1, 0, LAST), LAST // 7 * 3 + naive_count(odd, 0, 1, 0, LAST % 7)
        )

    def test_as_the_model(self):
        for net in naive.random_nets(40):
            letters = naive.letters(net, 30)
            for house in range(net.houses):
                for goal in range(net.houses):
                    days = [posted for source, posted, end in letters if source == house and end and end[0] == goal]
                    for first in range(0, 31, 3):
                        for last in range(31):
                            expected = len([day for day in days if first <= day <= last])
                            self.assertEqual(count_deliveries(net, house, goal, first, last), expected)


class WrongArguments(unittest.TestCase):
    def test_last_posting(self):
        net = naive.example()
        for house in naive.wrong_houses(net):
            for day in (0, -1, None, LAST + 1):
                for other in (0, 7, None):
                    with self.assertRaises(UnknownHouse):
                        last_posting(net, house, other, day)
                    with self.assertRaises(UnknownHouse):
                        last_posting(net, other, house, day)
        for day in naive.WRONG_DAYS:
            for house, goal in ((0, 1), (2, 2), (2, 0)):
                with self.assertRaises(InvalidDay):
                    last_posting(net, house, goal, day)

    def test_senders(self):
        net = naive.example()
        for goal in naive.wrong_houses(net):
            for day in (0, -1, None, LAST + 1):
                with self.assertRaises(UnknownHouse):
                    senders(net, goal, day)
        for day in naive.WRONG_DAYS:
            with self.assertRaises(InvalidDay):
                senders(net, 2, day)

    def test_count_deliveries(self):
        net = naive.example()
        for house in naive.wrong_houses(net):
            for first, last in ((0, 9), (9, 0), (-1, 9), (0, None), (None, "x"), (LAST + 1, 0)):
                for other in (0, 7, None):
                    with self.assertRaises(UnknownHouse):
                        count_deliveries(net, house, other, first, last)
                    with self.assertRaises(UnknownHouse):
                        count_deliveries(net, other, house, first, last)
        for day in naive.WRONG_DAYS:
            for other in (0, 9, LAST, -1, None):
                with self.assertRaises(InvalidDay):
                    count_deliveries(net, 1, 2, day, other)
                with self.assertRaises(InvalidDay):
                    count_deliveries(net, 1, 2, other, day)


def naive_count(net, house, goal, first, last):
    """Return how many of the letters that are posted from the first to the last day are delivered at the goal."""
    ends = [naive.destination(net, house, day) for day in range(first, last + 1)]
    return len([end for end in ends if end is not None and end[0] == goal])
