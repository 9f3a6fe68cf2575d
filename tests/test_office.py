"""Offices: point 14, but for snapshots."""

import itertools
import random
import unittest

import naive
import offices
from chasepost.errors import InvalidOrder, TooManyOrders, UnknownOrder
from chasepost.nets import Net
from chasepost.office import Office
from offices import FIRST, GOOD, SECOND, THIRD, Model, whole_state


class OfficeCase(unittest.TestCase):
    def assert_refused(self, office, error, method, *arguments):
        before = whole_state(office)
        with self.assertRaises(error):
            getattr(office, method)(*arguments)
        self.assertEqual(whole_state(office), before)


class Add(OfficeCase):
    def test_example(self):
        self.assertEqual(offices.office().add(GOOD), 3)

    def test_at_the_end(self):
        office = offices.office()
        self.assertEqual([office.add(GOOD), office.add(FIRST), office.add(GOOD)], [3, 4, 5])
        self.assertEqual(office.present_orders, (FIRST, SECOND, THIRD, GOOD, FIRST, GOOD))
        self.assertEqual(office.operations, ["add", "add", "add"])

    def test_the_first_order(self):
        office = Office(Net(4, 3, ()))
        self.assertEqual((office.add(GOOD), office.present_orders), (0, (GOOD,)))

    def test_smallest_and_largest_numbers(self):
        for order in itertools.product((0, 9), (1, 8), (0, 29), (1, 30), (1, 9)):
            office = Office(Net(30, 10, ()))
            self.assertEqual((office.add(order), office.present_orders), (0, (order,)))

    def test_wrong_orders(self):
        office = offices.office()
        office.cancel(0)
        office.cancel(0)
        office.undo()
        for order in offices.WRONG_ORDERS:
            self.assert_refused(office, InvalidOrder, "add", order)

    def test_values_that_are_no_integers_in_an_order(self):
        office = Office(Net(2, 2, ()))
        for place, value in itertools.product(range(5), naive.NO_INTEGERS):
            order = list((1, 0, 1, 1, 1) if place == 1 else (0, 1, 1, 1, 1))
            order[place] = value
            self.assert_refused(office, InvalidOrder, "add", tuple(order))

    def test_a_net_with_one_house(self):
        office = Office(Net(4, 1, ()))
        for order in ((0, 0, 0, 1, 1), (0, 1, 0, 1, 1), (1, 0, 0, 1, 1)):
            self.assert_refused(office, InvalidOrder, "add", order)

    def test_twenty_orders(self):
        office = Office(Net(4, 3, (FIRST,) * 19))
        self.assertEqual(office.add(GOOD), 19)
        self.assert_refused(office, TooManyOrders, "add", GOOD)
        for order in offices.WRONG_ORDERS:
            self.assert_refused(office, InvalidOrder, "add", order)
        self.assertEqual(office.present_orders, (FIRST,) * 19 + (GOOD,))
        office.cancel(0)
        self.assertEqual(office.add(SECOND), 19)
        self.assert_refused(office, TooManyOrders, "add", GOOD)

    def test_a_net_that_has_twenty_orders_from_the_beginning(self):
        office = Office(Net(4, 3, (FIRST,) * 20))
        self.assert_refused(office, TooManyOrders, "add", GOOD)
        self.assertEqual((office.operations, office.undo()), ([], False))


class Cancel(OfficeCase):
    def test_example(self):
        self.assertEqual(offices.office().cancel(0), FIRST)

    def test_each_order(self):
        for index, remaining in enumerate(((SECOND, THIRD), (FIRST, THIRD), (FIRST, SECOND))):
            office = offices.office()
            self.assertEqual(office.cancel(index), (FIRST, SECOND, THIRD)[index])
            self.assertEqual((office.present_orders, office.operations), (remaining, ["cancel"]))

    def test_later_numbers_decrease(self):
        office = offices.office()
        self.assertEqual([office.cancel(1), office.cancel(1), office.cancel(0)], [SECOND, THIRD, FIRST])
        self.assertEqual(office.present_orders, ())
        self.assert_refused(office, UnknownOrder, "cancel", 0)
        self.assertEqual((office.add(GOOD), office.cancel(0)), (0, GOOD))

    def test_unknown_orders(self):
        office = offices.office()
        office.cancel(2)
        office.undo()
        for index in offices.indexes(3):
            self.assert_refused(office, UnknownOrder, "cancel", index)
        office.cancel(2)
        self.assert_refused(office, UnknownOrder, "cancel", 2)
        office.add(THIRD)
        self.assertEqual(office.cancel(2), THIRD)


class Prolong(OfficeCase):
    def test_example(self):
        self.assertEqual(offices.office().prolong(0, 4), 2)

    def test_only_the_days_change(self):
        office = offices.office()
        self.assertEqual([office.prolong(1, 4), office.prolong(1, 3), office.prolong(2, 2)], [2, 4, 1])
        self.assertEqual(office.present_orders, (FIRST, (1, 0, 1, 3, 2), (1, 2, 0, 2, 3)))
        self.assertEqual(office.operations, ["prolong"] * 3)

    def test_fewer_and_as_many_days(self):
        office = offices.office()
        self.assertEqual([office.prolong(0, 1), office.prolong(0, 1), office.prolong(0, 2)], [2, 1, 1])
        self.assertEqual((office.present_orders, office.operations), ((FIRST, SECOND, THIRD), ["prolong"] * 3))

    def test_all_numbers_of_days(self):
        for period in (1, 4, 30):
            for days in range(-1, 33):
                office = Office(Net(period, 2, ((0, 1, 0, 1, 9),)))
                if 1 <= days <= period:
                    self.assertEqual((office.prolong(0, days), office.present_orders), (1, ((0, 1, 0, days, 9),)))
                else:
                    self.assert_refused(office, InvalidOrder, "prolong", 0, days)

    def test_wrong_arguments(self):
        office = offices.office()
        office.prolong(2, 3)
        office.prolong(0, 3)
        office.undo()
        for days in (0, -1, 5, 10 ** 5000) + naive.NO_INTEGERS:
            self.assert_refused(office, InvalidOrder, "prolong", 0, days)
            for index in offices.indexes(3):
                self.assert_refused(office, UnknownOrder, "prolong", index, days)
        for index in offices.indexes(3):
            self.assert_refused(office, UnknownOrder, "prolong", index, 1)


class RaiseOrder(OfficeCase):
    def test_example(self):
        office = offices.office()
        self.assertIsNone(office.raise_order(2))
        self.assertEqual(office.present_orders, (THIRD, FIRST, SECOND))

    def test_each_order(self):
        for index, expected in enumerate((
            (FIRST, SECOND, THIRD, GOOD), (SECOND, FIRST, THIRD, GOOD), (THIRD, FIRST, SECOND, GOOD),
            (GOOD, FIRST, SECOND, THIRD),
        )):
            office = Office(Net(4, 3, (FIRST, SECOND, THIRD, GOOD)))
            self.assertIsNone(office.raise_order(index))
            self.assertEqual((office.present_orders, office.operations), (expected, ["raise"]))

    def test_the_first_order_is_raised_to_where_it_is(self):
        office = offices.office()
        office.raise_order(0)
        self.assertEqual((office.operations, office.undo(), office.operations), (["raise"], True, []))

    def test_unknown_orders(self):
        office = offices.office()
        office.raise_order(1)
        office.raise_order(2)
        office.undo()
        for index in offices.indexes(3):
            self.assert_refused(office, UnknownOrder, "raise_order", index)
        self.assert_refused(Office(Net(4, 3, ())), UnknownOrder, "raise_order", 0)


class UndoAndRedo(OfficeCase):
    def test_examples(self):
        office = offices.office()
        office.cancel(0)
        self.assertEqual([office.undo(), office.operations, office.undo()], [True, [], False])
        self.assertEqual([office.redo(), office.operations], [True, ["cancel"]])

    def test_at_the_beginning(self):
        office = offices.office()
        self.assertEqual([office.undo(), office.redo(), office.undo()], [False, False, False])
        self.assertEqual((office.present_orders, office.operations), (naive.EXAMPLE[2], []))
        self.assertIs(office.undo(), False)
        self.assertIs(office.redo(), False)
        office.cancel(0)
        self.assertIs(office.undo(), True)
        self.assertIs(office.redo(), True)

    def test_each_operation(self):
        for operate, orders in (
            (lambda office: office.add(GOOD), (FIRST, SECOND, THIRD, GOOD)),
            (lambda office: office.cancel(1), (FIRST, THIRD)),
            (lambda office: office.prolong(1, 4), (FIRST, (1, 0, 1, 4, 2), THIRD)),
            (lambda office: office.raise_order(1), (SECOND, FIRST, THIRD)),
        ):
            office = offices.office()
            operate(office)
            word = office.operations
            for count in range(3):
                self.assertEqual((office.present_orders, office.operations), (orders, word))
                self.assertEqual((office.redo(), office.undo()), (False, True))
                self.assertEqual((office.present_orders, office.operations), ((FIRST, SECOND, THIRD), []))
                self.assertEqual((office.undo(), office.redo()), (False, True))

    def test_several_of_both(self):
        office = offices.office()
        office.add(GOOD)
        office.cancel(0)
        office.prolong(2, 4)
        office.raise_order(1)
        shown = [(office.present_orders, office.operations)]
        while office.undo():
            shown.append((office.present_orders, office.operations))
        self.assertEqual([row[1] for row in shown], [["add", "cancel", "prolong", "raise"][:4 - at] for at in range(5)])
        self.assertEqual([row[0] for row in shown], [
            (THIRD, SECOND, (0, 2, 0, 4, 1)), (SECOND, THIRD, (0, 2, 0, 4, 1)), (SECOND, THIRD, GOOD),
            (FIRST, SECOND, THIRD, GOOD), (FIRST, SECOND, THIRD),
        ])
        for row in shown[-2::-1]:
            self.assertIs(office.redo(), True)
            self.assertEqual((office.present_orders, office.operations), row)
        self.assertIs(office.redo(), False)

    def test_no_redo_after_a_new_operation(self):
        for operate in (
            lambda office: office.add(GOOD), lambda office: office.cancel(1), lambda office: office.prolong(1, 4),
            lambda office: office.raise_order(1),
        ):
            office = offices.office()
            office.add(GOOD)
            office.cancel(2)
            office.undo()
            office.undo()
            operate(office)
            orders, word = office.present_orders, office.operations
            self.assertIs(office.redo(), False)
            self.assertEqual((office.present_orders, office.operations), (orders, word))
            self.assertEqual((len(word), office.undo(), office.operations, office.undo()), (1, True, [], False))
            self.assertEqual((office.redo(), office.present_orders, office.redo()), (True, orders, False))

    def test_a_new_operation_in_the_middle(self):
        office = offices.office()
        office.cancel(0)
        office.cancel(0)
        office.undo()
        office.raise_order(1)
        self.assertEqual((office.present_orders, office.operations), ((THIRD, SECOND), ["cancel", "raise"]))
        self.assertEqual((office.redo(), office.undo()), (False, True))
        self.assertEqual((office.present_orders, office.operations), ((SECOND, THIRD), ["cancel"]))
        self.assertEqual((office.redo(), office.operations), (True, ["cancel", "raise"]))

    def test_redo_after_an_operation_that_failed(self):
        office = offices.office()
        office.cancel(0)
        office.undo()
        for error, method, arguments in (
            (UnknownOrder, "cancel", (3,)), (InvalidOrder, "add", (None,)), (InvalidOrder, "prolong", (0, 5)),
            (UnknownOrder, "raise_order", (-1,)),
        ):
            self.assert_refused(office, error, method, *arguments)
        self.assertEqual((office.redo(), office.operations), (True, ["cancel"]))

    def test_redo_in_a_net_that_was_full(self):
        office = Office(Net(4, 3, (FIRST,) * 20))
        office.cancel(0)
        office.add(GOOD)
        self.assertEqual([office.undo(), office.undo(), office.redo(), office.redo()], [True] * 4)
        self.assertEqual(office.present_orders, (FIRST,) * 19 + (GOOD,))

    def test_all_short_sequences_as_the_model(self):
        words = (("add", GOOD), ("cancel", 0), ("prolong", 0, 3), ("raise", 1), ("undo",), ("redo",))
        for operations in itertools.product(words, repeat=5):
            office, model = offices.office(), Model(naive.example())
            for operation in operations:
                if model.execute(operation) != "fails":
                    office.execute(operation)
            self.assertEqual((office.present_orders, office.operations), model.state())

    def test_long_sequences_as_the_model(self):
        for seed, net in enumerate(naive.random_nets(150)):
            chance = random.Random(seed)
            office, model = Office(net), Model(net)
            for count in range(60):
                operation = offices.random_operation(chance, net, len(office.present_orders))
                result = model.execute(operation)
                if result == "fails":
                    with self.assertRaises((InvalidOrder, UnknownOrder, TooManyOrders)):
                        office.execute(operation)
                else:
                    self.assertEqual(office.execute(operation), result)
                self.assertEqual((office.present_orders, office.operations), model.state())


class PresentOrdersAndOperations(OfficeCase):
    def test_examples(self):
        office = offices.office()
        office.cancel(0)
        self.assertEqual(office.present_orders, (SECOND, THIRD))
        office = offices.office()
        office.prolong(0, 4)
        self.assertEqual(office.operations, ["prolong"])

    def test_at_the_beginning(self):
        self.assertEqual((offices.office().present_orders, offices.office().operations), (naive.EXAMPLE[2], []))
        self.assertEqual((Office(Net(1, 1, ())).present_orders, Office(Net(1, 1, ())).operations), ((), []))

    def test_the_words_are_those_of_operations(self):
        office = offices.office()
        office.raise_order(1)
        office.prolong(0, 1)
        office.cancel(0)
        office.add(GOOD)
        self.assertEqual(office.operations, ["raise", "prolong", "cancel", "add"])

    def test_new_list(self):
        office = offices.office()
        office.cancel(0)
        words = office.operations
        words.append("undo")
        office.operations.clear()
        self.assertEqual(office.operations, ["cancel"])
        office.cancel(0)
        self.assertEqual((words, office.operations), (["cancel", "undo"], ["cancel", "cancel"]))
        self.assertEqual((office.undo(), office.undo(), office.undo()), (True, True, False))

    def test_a_new_list_without_operations(self):
        office = offices.office()
        office.operations.append("cancel")
        self.assertEqual((office.operations, office.undo()), ([], False))

    def test_the_orders_are_a_tuple(self):
        office = offices.office()
        for operation in (("add", GOOD), ("cancel", 0), ("prolong", 0, 3), ("raise", 1), ("undo",), ("redo",)):
            office.execute(operation)
            self.assertIsInstance(office.present_orders, tuple)
            Net(4, 3, office.present_orders)


class NetsAndOtherOffices(OfficeCase):
    def test_the_net_is_as_before(self):
        net = naive.example()
        office = Office(net)
        office.prolong(0, 4)
        office.cancel(1)
        office.raise_order(1)
        office.add(GOOD)
        self.assertEqual((net.period, net.houses, net.orders), naive.EXAMPLE)
        self.assertEqual([net.order_at(0, day) for day in range(4)], [0, 0, None, None])
        self.assertEqual(net.text, naive.example().text)

    def test_two_offices_of_one_net(self):
        net = naive.example()
        first, second = Office(net), Office(net)
        first.cancel(0)
        first.save("x")
        self.assertEqual((second.present_orders, second.operations, second.undo()), (net.orders, [], False))
        second.raise_order(2)
        self.assertEqual((first.present_orders, first.operations), ((SECOND, THIRD), ["cancel"]))
        self.assertEqual((second.present_orders, second.operations), ((THIRD, FIRST, SECOND), ["raise"]))
        self.assertEqual((first.undo(), first.undo(), second.operations), (True, False, ["raise"]))
