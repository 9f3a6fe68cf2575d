"""What results of letters tell about a hidden order: point 11."""

import unittest

import naive
from chasepost.errors import Contradiction, InvalidDay, InvalidResult, UnknownHouse, UnknownOrder
from chasepost.nets import Net
from chasepost.watching import Watcher

LAST = naive.LAST_DAY
# House 1 is left on all days, by the hidden order 1; house 0 is left to house 1 on even days. So a letter from house 0
# chases for ever if the hidden order leads back to house 0 after an odd number of days.
SWING = (2, 3, ((0, 1, 0, 1, 1), (1, 0, 0, 2, 1)))
# The letter (1, 1) has nine results, one of them with four candidates; (1, 0) has eight, with at most three each.
UNEVEN = (2, 3, ((1, 0, 0, 2, 3), (2, 0, 1, 1, 2), (0, 2, 1, 2, 3)))
MANY_RESULTS = (1, 1)
FEW_RESULTS = (1, 0)
WRONG_RESULTS = (
    True, False, 0, 1, -1, 10 ** 5000, "", "None", "ab", [], [2, 3], [None], (), (2,), (None,), (2, 3, 4), (2, 3, None),
    (3, 3), (-1, 3), (10 ** 5000, 3), (True, 3), (False, 3), (None, 3), ("2", 3), ((2,), 3), ([2], 3),
    (2, True), (2, False), (2, None), (2, "3"), (2, (3,)), (2, [3]), (None, None), ((2, 3), None),
)


def watch_example():
    return Watcher(naive.example(), 2)


def watch_swing():
    return Watcher(Net(*SWING), 1)


def state(watcher):
    return watcher.candidates, watcher.history, watcher.results(0, 0), watcher.best_letter(0)


def model(net, index):
    """Return a dict: the net with each candidate, in ascending order."""
    nets = {}
    for target in range(net.houses):
        for delay in range(1, 10):
            order = net.orders[index]
            if target != order[0]:
                orders = list(net.orders)
                orders[index] = (order[0], target, order[2], order[3], delay)
                nets[(target, delay)] = Net(net.period, net.houses, tuple(orders))
    return nets


def model_results(nets, house, day):
    """Return the results of a letter, one for each candidate."""
    return [naive.destination(net, house, day) for net in nets.values()]


def count_alike(nets, house, day):
    """Return, for each candidate, with how many of them a letter has the same result."""
    found = model_results(nets, house, day)
    return [found.count(result) for result in found]


def model_best_letter(nets, house_count, period, first):
    best = None
    for house in range(house_count):
        for day in range(first, first + period):
            found = model_results(nets, house, day)
            worst = max(found.count(result) for result in found)
            if best is None or worst < best[0]:
                best = (worst, house, day)
    return best[1:]


def nets_with_orders(count):
    return [net for net in naive.random_nets(count) if net.orders and net.houses < 5]


class HiddenOrder(unittest.TestCase):
    def test_every_order_can_be_hidden(self):
        net = naive.example()
        for index, targets in enumerate(((1, 2), (0, 2), (0, 2))):
            expected = [(target, delay) for target in targets for delay in range(1, 10)]
            self.assertEqual(Watcher(net, index).candidates, expected)

    def test_unknown_orders(self):
        net = naive.example()
        for index in (-1, -3, 3, 4, 10 ** 5000, -10 ** 5000) + naive.NO_INTEGERS:
            with self.assertRaises(UnknownOrder):
                Watcher(net, index)
        for index in (0, -1, None):
            with self.assertRaises(UnknownOrder):
                Watcher(Net(4, 3, ()), index)

    def test_twenty_orders(self):
        net = Net(3, 2, ((0, 1, 0, 1, 1),) * 20)
        self.assertEqual(Watcher(net, 19).candidates, [(1, delay) for delay in range(1, 10)])
        with self.assertRaises(UnknownOrder):
            Watcher(net, 20)

    def test_the_net_is_as_before(self):
        net = naive.example()
        watcher = Watcher(net, 2)
        watcher.see(1, 0, (0, 7))
        watcher.best_letter(0)
        self.assertEqual((net.period, net.houses, net.orders), naive.EXAMPLE)
        self.assertEqual(list(net.route(1, 0, 9)), [(1, 0), (2, 3)])

    def test_two_watchers(self):
        net = naive.example()
        first, second = Watcher(net, 2), Watcher(net, 2)
        first.see(1, 0, (2, 3))
        self.assertEqual((first.candidates, first.history), ([(2, 3)], [(1, 0, (2, 3))]))
        self.assertEqual((len(second.candidates), second.history), (18, []))
        second.see(1, 0, (0, 7))
        self.assertEqual((first.candidates, first.history), ([(2, 3)], [(1, 0, (2, 3))]))


class See(unittest.TestCase):
    def test_examples(self):
        self.assertEqual(watch_example().see(1, 0, (2, 3)), 1)
        with self.assertRaises(Contradiction):
            watch_example().see(1, 0, (1, 3))
        watcher = watch_example()
        self.assertEqual(watcher.see(1, 0, (0, 7)), 3)
        self.assertEqual(watcher.candidates, [(0, 1), (0, 4), (0, 7)])

    def test_one_result_after_another(self):
        watcher = watch_example()
        self.assertEqual((len(watcher.candidates), watcher.history), (18, []))
        self.assertEqual(watcher.see(2, 0, (2, 0)), 18)
        self.assertEqual(watcher.see(1, 0, (0, 11)), 2)
        self.assertEqual(watcher.candidates, [(0, 5), (0, 8)])
        self.assertEqual(watcher.see(1, 4, (0, 15)), 2)
        self.assertEqual(watcher.see(2, 9, (2, 9)), 2)
        self.assertEqual(
            watcher.history, [(2, 0, (2, 0)), (1, 0, (0, 11)), (1, 4, (0, 15)), (2, 9, (2, 9))],
        )

    def test_the_same_letter_twice(self):
        watcher = watch_example()
        self.assertEqual([watcher.see(1, 0, (0, 7)), watcher.see(1, 0, (0, 7))], [3, 3])
        self.assertEqual(watcher.history, [(1, 0, (0, 7))] * 2)

    def test_each_result_leaves_those_that_agree(self):
        nets = model(naive.example(), 2)
        for house in range(3):
            for day in range(5):
                found = model_results(nets, house, day)
                for result in found:
                    watcher = watch_example()
                    self.assertEqual(watcher.see(house, day, result), found.count(result))
                    expected = [one for one, other in zip(nets, found) if other == result]
                    self.assertEqual(watcher.candidates, expected)

    def test_none(self):
        watcher = watch_swing()
        self.assertEqual(watcher.see(0, 0, None), 5)
        self.assertEqual(watcher.candidates, [(0, 1), (0, 3), (0, 5), (0, 7), (0, 9)])
        self.assertEqual(watcher.history, [(0, 0, None)])
        with self.assertRaises(Contradiction):
            watcher.see(0, 0, (0, 3))
        with self.assertRaises(Contradiction):
            watcher.see(0, 1, None)
        with self.assertRaises(Contradiction):
            watch_example().see(1, 0, None)

    def test_contradictions_change_nothing(self):
        for seen in ([], [(1, 0, (0, 7))], [(1, 0, (0, 7)), (2, 1, (2, 1))]):
            watcher = watch_example()
            watcher.see_all(*seen)
            before = state(watcher)
            for house, day, result in (
                (1, 0, (1, 3)), (1, 0, (0, 8)), (2, 0, (0, 0)), (2, 0, None), (0, 2, (0, 6)), (1, 0, (2, 10)),
            ):
                with self.assertRaises(Contradiction):
                    watcher.see(house, day, result)
                self.assertEqual(state(watcher), before)

    def test_two_results_that_fit_each_alone(self):
        watcher = watch_example()
        watcher.see(1, 0, (0, 7))
        with self.assertRaises(Contradiction):
            watcher.see(1, 0, (2, 3))
        self.assertEqual(watcher.candidates, [(0, 1), (0, 4), (0, 7)])
        self.assertEqual(watcher.history, [(1, 0, (0, 7))])

    def test_days_of_results_beyond_the_limits_of_other_days(self):
        self.assertEqual(LAST % 4, 0)
        watcher = watch_example()
        self.assertEqual(watcher.see(1, LAST, (2, LAST + 3)), 1)
        self.assertEqual((watcher.candidates, watcher.history), ([(2, 3)], [(1, LAST, (2, LAST + 3))]))
        for day in (-1, -10 ** 5000, 10 ** 5000, LAST + 1, LAST + 30):
            with self.assertRaises(Contradiction):
                watch_example().see(1, 0, (2, day))

    def test_wrong_results(self):
        watcher = watch_example()
        watcher.see(1, 0, (0, 7))
        before = state(watcher)
        for place, result in enumerate(WRONG_RESULTS):
            for house in (1, 2):
                with self.subTest(place=place), self.assertRaises(InvalidResult):
                    watcher.see(house, 0, result)
        self.assertEqual(state(watcher), before)

    def test_wrong_houses_and_days(self):
        watcher = watch_example()
        before = state(watcher)
        for result in ((2, 3), None, True, (2, 99)):
            for house in naive.wrong_houses(naive.example()):
                for day in (0, -1, None):
                    with self.assertRaises(UnknownHouse):
                        watcher.see(house, day, result)
            for day in naive.WRONG_DAYS:
                with self.assertRaises(InvalidDay):
                    watcher.see(1, day, result)
        self.assertEqual(state(watcher), before)


class SeeAll(unittest.TestCase):
    def test_example(self):
        self.assertEqual(watch_example().see_all((2, 0, (2, 0)), (1, 0, (0, 7))), 3)

    def test_no_letter(self):
        watcher = watch_example()
        self.assertEqual((watcher.see_all(), watcher.history), (18, []))
        watcher.see(1, 0, (0, 7))
        self.assertEqual((watcher.see_all(), watcher.history), (3, [(1, 0, (0, 7))]))

    def test_one_letter(self):
        watcher = watch_example()
        self.assertEqual(watcher.see_all((1, 0, (2, 3))), 1)
        self.assertEqual((watcher.candidates, watcher.history), ([(2, 3)], [(1, 0, (2, 3))]))

    def test_several_letters(self):
        watcher = watch_swing()
        self.assertEqual(watcher.see_all((0, 0, None), (1, 1, None), (1, 0, (0, 1)), (2, 5, (2, 5))), 1)
        self.assertEqual(watcher.candidates, [(0, 1)])
        self.assertEqual(watcher.history, [(0, 0, None), (1, 1, None), (1, 0, (0, 1)), (2, 5, (2, 5))])

    def test_the_same_letters_one_by_one_and_together(self):
        for net in nets_with_orders(60):
            for index, order in enumerate(net.orders[:3]):
                letters = [
                    (house, day, naive.destination(net, house, day)) for house in range(net.houses) for day in (1, 4)
                ]
                single, together = Watcher(net, index), Watcher(net, index)
                counts = [single.see(house, day, result) for house, day, result in letters]
                self.assertEqual(together.see_all(*letters), counts[-1])
                self.assertEqual(together.history, letters)
                self.assertEqual(state(together), state(single))
                self.assertIn((order[1], order[4]), together.candidates)

    def test_an_error_at_each_place(self):
        good = [(2, 0, (2, 0)), (1, 0, (0, 7)), (0, 2, (0, 2))]
        for letter, error in (
            ((3, 0, None), UnknownHouse), ((True, -1, 0), UnknownHouse), ((1, -1, None), InvalidDay),
            ((1, None, True), InvalidDay), ((1, 0, (0, True)), InvalidResult), ((1, 0, 0), InvalidResult),
            ((1, 0, (1, 3)), Contradiction), ((2, 1, None), Contradiction),
        ):
            for place in range(4):
                watcher = watch_example()
                watcher.see(1, 8, (0, 15))
                before = state(watcher)
                with self.assertRaises(error):
                    watcher.see_all(*good[:place], letter, *good[place:])
                self.assertEqual(state(watcher), before)
                self.assertEqual(watcher.see_all(*good), 3)

    def test_letters_that_contradict_each_other(self):
        watcher = watch_example()
        before = state(watcher)
        with self.assertRaises(Contradiction):
            watcher.see_all((1, 0, (0, 7)), (1, 0, (0, 11)))
        self.assertEqual(state(watcher), before)

    def test_the_first_error_is_raised(self):
        watcher = watch_example()
        contradiction, house, day, result = (1, 0, (1, 3)), (3, 0, None), (1, -1, None), (1, 0, True)
        for letters, error in (
            ((contradiction, house, day, result), Contradiction), ((house, contradiction, result), UnknownHouse),
            ((day, house, contradiction), InvalidDay), ((result, day, house), InvalidResult),
            (((1, 0, (0, 7)), (1, 0, (2, 3)), house), Contradiction),
            (((1, 0, (0, 7)), house, (1, 0, (2, 3))), UnknownHouse),
        ):
            with self.assertRaises(error):
                watcher.see_all(*letters)
        self.assertEqual((len(watcher.candidates), watcher.history), (18, []))

    def test_the_list_of_letters_is_as_before(self):
        letters = [(2, 0, (2, 0)), (1, 0, (0, 7))]
        watcher = watch_example()
        watcher.see_all(*letters)
        letters.clear()
        self.assertEqual(watcher.history, [(2, 0, (2, 0)), (1, 0, (0, 7))])


class CandidatesAndHistory(unittest.TestCase):
    def test_new_lists(self):
        watcher = watch_example()
        watcher.see(1, 0, (0, 7))
        watcher.candidates.append((2, 2))
        watcher.candidates.clear()
        watcher.history.append(None)
        watcher.history.clear()
        self.assertEqual(watcher.candidates, [(0, 1), (0, 4), (0, 7)])
        self.assertEqual(watcher.history, [(1, 0, (0, 7))])
        self.assertEqual(watcher.see(1, 0, (0, 7)), 3)

    def test_lists_that_were_read_before(self):
        watcher = watch_example()
        candidates, history = watcher.candidates, watcher.history
        watcher.see(1, 0, (0, 7))
        self.assertEqual((len(candidates), history), (18, []))
        candidates, history = watcher.candidates, watcher.history
        watcher.see(0, 2, (0, 2))
        self.assertEqual((candidates, history), ([(0, 1), (0, 4), (0, 7)], [(1, 0, (0, 7))]))

    def test_new_lists_before_the_first_result(self):
        watcher = watch_example()
        watcher.candidates.pop()
        watcher.history.append((2, 0, (2, 0)))
        self.assertEqual((len(watcher.candidates), watcher.history), (18, []))


class Results(unittest.TestCase):
    def test_example(self):
        self.assertEqual(watch_example().results(2, 0), [(2, 0)])

    def test_in_ascending_order(self):
        expected = [(0, day) for day in (2, 3, 6, 7, 11, 15)] + [(2, day) for day in range(1, 10)]
        self.assertEqual(watch_example().results(1, 0), expected)
        self.assertEqual(watch_example().results(1, 4), [(house, day + 4) for house, day in expected])

    def test_none_comes_first(self):
        expected = [None] + [(0, day) for day in (3, 5, 7, 9)] + [(2, day) for day in range(2, 11)]
        self.assertEqual(watch_swing().results(0, 0), expected)

    def test_only_none(self):
        self.assertEqual(Watcher(naive.circle(), 1).results(0, 0), [None])

    def test_after_observations(self):
        watcher = watch_swing()
        watcher.see(1, 1, (0, 5))
        self.assertEqual(watcher.candidates, [(0, 4)])
        self.assertEqual(watcher.results(0, 0), [(0, 5)])
        watcher = watch_swing()
        watcher.see(0, 0, None)
        self.assertEqual(watcher.results(0, 0), [None])
        self.assertEqual(watcher.results(1, 1), [None])
        self.assertEqual(watcher.results(1, 0), [(0, 1), (0, 3), (0, 5), (0, 7), (0, 9)])

    def test_late_days(self):
        found = watch_example().results(1, LAST)
        self.assertEqual((found[0], found[-1], len(found)), ((0, LAST + 2), (2, LAST + 9), 15))

    def test_as_the_model(self):
        for net in nets_with_orders(60):
            index = len(net.orders) - 1
            nets = model(net, index)
            watcher = Watcher(net, index)
            for house in range(net.houses):
                for day in range(0, net.period + 2, 2):
                    found = set(model_results(nets, house, day))
                    expected = sorted(found - {None})
                    self.assertEqual(watcher.results(house, day), [None] * (None in found) + expected)

    def test_new_list(self):
        watcher = watch_swing()
        expected = watcher.results(0, 0)
        watcher.results(0, 0).clear()
        self.assertEqual(watcher.results(0, 0), expected)

    def test_it_changes_nothing(self):
        watcher = watch_swing()
        before = state(watcher)
        watcher.results(1, 1)
        self.assertEqual(state(watcher), before)

    def test_wrong_arguments(self):
        watcher = watch_example()
        for house in naive.wrong_houses(naive.example()):
            for day in (0, -1, None):
                with self.assertRaises(UnknownHouse):
                    watcher.results(house, day)
        for day in naive.WRONG_DAYS:
            with self.assertRaises(InvalidDay):
                watcher.results(2, day)


class BestLetter(unittest.TestCase):
    def test_example(self):
        self.assertEqual(watch_example().best_letter(0), (1, 0))

    def test_each_first_day(self):
        days = [watch_example().best_letter(first) for first in range(6)]
        self.assertEqual(days, [(1, 0), (1, 4), (1, 4), (1, 4), (1, 4), (1, 8)])

    def test_late_first_days(self):
        self.assertEqual(watch_example().best_letter(LAST), (1, LAST))
        self.assertEqual(watch_example().best_letter(LAST - 1), (1, LAST))
        self.assertEqual(watch_example().best_letter(LAST - 3), (1, LAST))
        self.assertEqual(watch_swing().best_letter(LAST), (1, LAST))
        self.assertEqual(watch_swing().best_letter(LAST - 1), (1, LAST))
        self.assertEqual(Watcher(Net(3, 2, ((1, 0, 2, 1, 1),)), 0).best_letter(LAST), (1, LAST + 1))

    def test_ties_are_won_by_the_first_house_and_then_the_first_day(self):
        # Each letter of the circle chases with each candidate.
        watcher = Watcher(naive.circle(), 1)
        self.assertEqual([watcher.best_letter(first) for first in (0, 1, 2, LAST)], [(0, 0), (0, 1), (0, 2), (0, LAST)])
        # All letters of house 1 are the same but for their days.
        watcher = Watcher(Net(5, 3, ((1, 0, 0, 5, 1),)), 0)
        self.assertEqual([watcher.best_letter(first) for first in (0, 3, 13)], [(1, 0), (1, 3), (1, 13)])
        # Houses 1 and 2 tell the same, house 1 on a later day of the period.
        watcher = Watcher(Net(5, 4, ((1, 0, 3, 1, 1), (2, 1, 1, 1, 2))), 0)
        self.assertEqual([watcher.best_letter(first) for first in (0, 1, 3, 4)], [(1, 3), (1, 3), (1, 3), (1, 8)])

    def test_the_first_house_even_on_a_later_day(self):
        watcher = Watcher(Net(6, 3, ((0, 2, 5, 1, 1), (1, 0, 2, 1, 3))), 0)
        self.assertEqual([watcher.best_letter(first) for first in (0, 5, 6)], [(0, 5), (0, 5), (0, 11)])

    def test_the_worst_case_counts(self):
        # From house 0 five candidates chase on even days, and all letters are delivered at once on odd days; from
        # house 1 at most two candidates lead to the same result on even days, and five chase on odd days.
        nets = model(Net(*SWING), 1)
        worst = [max(count_alike(nets, house, day)) for house in (0, 1) for day in (0, 1)]
        self.assertEqual(worst, [5, 18, 2, 5])
        self.assertEqual([watch_swing().best_letter(first) for first in (0, 1)], [(1, 0), (1, 2)])

    def test_the_worst_case_counts_even_if_there_are_fewer_results(self):
        net = Net(*UNEVEN)
        nets = model(net, 0)
        many, few = count_alike(nets, *MANY_RESULTS), count_alike(nets, *FEW_RESULTS)
        self.assertGreater(len(set(model_results(nets, *MANY_RESULTS))), len(set(model_results(nets, *FEW_RESULTS))))
        self.assertGreater(max(many), max(few))
        self.assertEqual(Watcher(net, 0).best_letter(0), FEW_RESULTS)

    def test_only_the_remaining_candidates_count(self):
        watcher = watch_swing()
        watcher.see(0, 0, None)
        # Now only the letters that are posted at house 1 on even days tell more.
        self.assertEqual([watcher.best_letter(first) for first in (0, 1)], [(1, 0), (1, 2)])
        watcher.see(1, 0, (0, 3))
        self.assertEqual([watcher.best_letter(first) for first in (0, 1)], [(0, 0), (0, 1)])

    def test_as_the_model(self):
        for net in nets_with_orders(50):
            index = len(net.orders) // 2
            nets = model(net, index)
            watcher = Watcher(net, index)
            for first in (0, 3):
                expected = model_best_letter(nets, net.houses, net.period, first)
                self.assertEqual(watcher.best_letter(first), expected)
            house, day = expected
            result = naive.destination(net, house, day)
            watcher.see(house, day, result)
            for candidate, other in list(nets.items()):
                if naive.destination(other, house, day) != result:
                    del nets[candidate]
            self.assertEqual(watcher.candidates, list(nets))
            self.assertEqual(watcher.best_letter(1), model_best_letter(nets, net.houses, net.period, 1))

    def test_it_changes_nothing(self):
        watcher = watch_swing()
        candidates = watcher.candidates
        self.assertEqual(watcher.best_letter(0), watcher.best_letter(0))
        self.assertEqual((watcher.candidates, watcher.history), (candidates, []))

    def test_wrong_days(self):
        for day in naive.WRONG_DAYS:
            with self.assertRaises(InvalidDay):
                watch_example().best_letter(day)
