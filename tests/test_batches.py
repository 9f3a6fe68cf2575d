"""Batches and replays of operations: point 15."""

import itertools
import random
import unittest

import naive
import offices
from chasepost.errors import InvalidOperation, InvalidOrder, TooManyOrders, UnknownOrder
from chasepost.nets import Net
from chasepost.office import Office
from offices import FIRST, GOOD, SECOND, THIRD, Model, whole_state

NO_LISTS = (
    None, True, False, 0, 7, 10 ** 5000, "", "undo", (), ("undo",), (("undo",),), (("undo",), ("redo",)), (["undo"],),
)
# Operations of the right form that fail in the net of the example, behind no other one.
FAILING = (
    (("add", None), InvalidOrder), (("add", (0, 0, 0, 1, 1)), InvalidOrder), (("add", [0, 2, 0, 1, 1]), InvalidOrder),
    (("add", "order"), InvalidOrder), (("add", 0), InvalidOrder), (("add", ()), InvalidOrder),
    (("cancel", 3), UnknownOrder), (("cancel", -1), UnknownOrder), (("cancel", True), UnknownOrder),
    (("cancel", None), UnknownOrder), (("cancel", []), UnknownOrder), (("cancel", "0"), UnknownOrder),
    (("prolong", 3, 1), UnknownOrder), (("prolong", None, None), UnknownOrder), (("prolong", 0, 5), InvalidOrder),
    (("prolong", 0, 0), InvalidOrder), (("prolong", 0, None), InvalidOrder), (("prolong", 0, True), InvalidOrder),
    (("raise", 3), UnknownOrder), (("raise", (0,)), UnknownOrder), (("raise", False), UnknownOrder),
)
# Operations that do not fail there, one after another.
FITTING = [
    ("add", GOOD), ("cancel", 0), ("prolong", 2, 4), ("undo",), ("undo",), ("redo",), ("redo",), ("raise", 1),
    ("redo",),
]


def busy_office():
    """Return an office with operations in effect and some to be redone."""
    office = offices.office()
    office.prolong(1, 4)
    office.raise_order(2)
    office.cancel(0)
    office.add(THIRD)
    office.undo()
    office.undo()
    office.save("saved")
    return office


class BatchCase(unittest.TestCase):
    def assert_place(self, place, function, *arguments):
        with self.assertRaises(InvalidOperation) as caught:
            function(*arguments)
        self.assertEqual(caught.exception.place, place)


class Batch(BatchCase):
    def test_examples(self):
        self.assertEqual(offices.office().batch([("prolong", 0, 4), ("undo",)]), [2, True])
        self.assert_place(0, offices.office().batch, [("cancel",)])

    def test_empty_list(self):
        office = busy_office()
        before = whole_state(office)
        self.assertEqual(office.batch([]), [])
        self.assertEqual(whole_state(office), before)

    def test_each_operation_and_its_result(self):
        office = offices.office()
        results = office.batch(FITTING)
        self.assertEqual(results, [3, FIRST, 1, True, True, True, True, None, False])
        self.assertEqual(office.present_orders, (THIRD, SECOND, (0, 2, 0, 4, 1)))
        self.assertEqual(office.operations, ["add", "cancel", "prolong", "raise"])
        for operation, result in zip(
            (("add", GOOD), ("cancel", 1), ("prolong", 2, 2), ("raise", 2), ("undo",), ("redo",)),
            (3, SECOND, 1, None, False, False),
        ):
            self.assertEqual(offices.office().batch([operation]), [result])

    def test_undo_and_redo_reach_beyond_the_batch(self):
        office = offices.office()
        office.cancel(0)
        office.raise_order(1)
        self.assertEqual(office.batch([("undo",), ("undo",), ("undo",)]), [True, True, False])
        self.assertEqual(office.batch([("redo",)]), [True])
        self.assertEqual((office.present_orders, office.operations), ((SECOND, THIRD), ["cancel"]))
        self.assertEqual(office.batch([("redo",), ("redo",)]), [True, False])

    def test_its_operations_are_undone_one_by_one(self):
        office = offices.office()
        office.batch([("cancel", 0), ("cancel", 0)])
        self.assertEqual(office.operations, ["cancel", "cancel"])
        self.assertEqual((office.undo(), office.operations), (True, ["cancel"]))
        self.assertEqual((office.undo(), office.undo()), (True, False))

    def test_malformed_entries_at_each_position(self):
        office = busy_office()
        before = whole_state(office)
        good = [("cancel", 0), ("undo",), ("add", GOOD)]
        for entry in offices.WRONG_ENTRIES:
            for place in range(4):
                self.assert_place(place, office.batch, good[:place] + [entry] + good[place:])
        self.assertEqual(whole_state(office), before)

    def test_the_first_malformed_entry_counts(self):
        office = busy_office()
        self.assert_place(1, office.batch, [("undo",), (), ("undo",), None])
        self.assert_place(0, office.batch, [None, ()])

    def test_malformed_entries_go_before_operations_that_fail(self):
        office = busy_office()
        before = whole_state(office)
        for operation, error in FAILING:
            self.assert_place(2, office.batch, [operation, ("undo",), ("undo", 1)])
            self.assert_place(1, office.batch, [operation, None])
        self.assertEqual(whole_state(office), before)

    def test_values_that_are_no_lists(self):
        office = busy_office()
        before = whole_state(office)
        for value in NO_LISTS:
            self.assert_place(0, office.batch, value)
        self.assertEqual(whole_state(office), before)

    def test_batches_that_fail(self):
        for operation, error in FAILING:
            for place in range(4):
                good = [("prolong", 0, 2), ("undo",), ("redo",)]
                office = busy_office()
                before = whole_state(office)
                with self.assertRaises(error):
                    office.batch(good[:place] + [operation] + good[place:])
                self.assertEqual(whole_state(office), before)

    def test_batches_that_fail_behind_each_kind_of_operation(self):
        for length in (1, 2, 3):
            for operations in itertools.product(FITTING, repeat=length):
                office, trial = busy_office(), busy_office()
                before = whole_state(office)
                try:
                    expected = [trial.execute(operation) for operation in operations]
                except (UnknownOrder, InvalidOrder) as fault:
                    with self.assertRaises(fault.__class__):
                        office.batch(list(operations))
                else:
                    with self.assertRaises(UnknownOrder):
                        office.batch(list(operations) + [("cancel", 9)])
                    self.assertEqual(whole_state(office), before)
                    self.assertEqual(office.batch(list(operations)), expected)
                    self.assertEqual(whole_state(office), whole_state(trial))
                    continue
                self.assertEqual(whole_state(office), before)

    def test_a_batch_that_adds_too_many_orders(self):
        office = Office(Net(4, 3, (FIRST,) * 18))
        office.cancel(0)
        office.undo()
        before = whole_state(office)
        with self.assertRaises(TooManyOrders):
            office.batch([("add", GOOD)] * 3)
        with self.assertRaises(InvalidOrder):
            office.batch([("add", GOOD), ("add", GOOD), ("add", None)])
        self.assertEqual(whole_state(office), before)
        self.assertEqual(office.batch([("add", GOOD)] * 2), [18, 19])

    def test_snapshots_are_as_before(self):
        office = busy_office()
        before = whole_state(office)
        with self.assertRaises(UnknownOrder):
            office.batch([("cancel", 0), ("cancel", 9)])
        office.batch([("cancel", 0), ("undo",), ("undo",)])
        office.restore("saved")
        self.assertEqual(whole_state(office), before)

    def test_the_list_is_as_before(self):
        operations = list(FITTING)
        office = offices.office()
        office.batch(operations)
        self.assertEqual(operations, FITTING)
        operations.append(("cancel", 9))
        with self.assertRaises(UnknownOrder):
            office.batch(operations)
        self.assertEqual(operations, FITTING + [("cancel", 9)])
        operations.clear()
        self.assertEqual(office.operations, ["add", "cancel", "prolong", "raise"])

    def test_new_list(self):
        office = offices.office()
        results = office.batch([("cancel", 0)])
        results.clear()
        self.assertEqual((office.operations, office.batch([("undo",)])), (["cancel"], [True]))

    def test_as_the_model(self):
        for seed, net in enumerate(naive.random_nets(120)):
            chance = random.Random(seed)
            operations = offices.random_operations(seed, net)
            office, model = Office(net), Model(net)
            while operations:
                size = chance.randint(1, 6)
                expected = [model.execute(operation) for operation in operations[:size]]
                self.assertEqual(office.batch(operations[:size]), expected)
                self.assertEqual((office.present_orders, office.operations), model.state())
                operations = operations[size:]


class Replay(BatchCase):
    def test_example(self):
        office = Office.replay(naive.example(), [("cancel", 1)])
        self.assertIsInstance(office, Office)
        self.assertEqual(office.present_orders, (FIRST, THIRD))

    def test_empty_list(self):
        office = Office.replay(naive.example(), [])
        self.assertEqual(whole_state(office), whole_state(offices.office()))

    def test_all_operations(self):
        office, other = Office.replay(naive.example(), FITTING), offices.office()
        other.batch(FITTING)
        self.assertEqual(whole_state(office), whole_state(other))
        self.assertEqual(office.operations, ["add", "cancel", "prolong", "raise"])

    def test_operations_that_were_undone(self):
        operations = [("undo",), ("cancel", 0), ("raise", 1), ("undo",), ("undo",), ("redo",)]
        office = Office.replay(naive.example(), operations)
        self.assertEqual((office.present_orders, office.operations), ((SECOND, THIRD), ["cancel"]))
        self.assertEqual((office.redo(), office.redo()), (True, False))
        self.assertEqual(office.operations, ["cancel", "raise"])

    def test_each_call_returns_a_new_office(self):
        net = naive.example()
        first, second = Office.replay(net, [("cancel", 1)]), Office.replay(net, [("cancel", 1)])
        first.cancel(0)
        self.assertEqual((second.present_orders, second.operations), ((FIRST, THIRD), ["cancel"]))
        self.assertEqual(net.orders, naive.EXAMPLE[2])

    def test_malformed_entries_at_each_position(self):
        good = [("cancel", 0), ("undo",), ("add", GOOD)]
        for entry in offices.WRONG_ENTRIES:
            for place in range(4):
                self.assert_place(place, Office.replay, naive.example(), good[:place] + [entry] + good[place:])

    def test_failing_entries_at_each_position(self):
        good = [("prolong", 0, 2), ("undo",), ("redo",)]
        for operation, error in FAILING:
            for place in range(4):
                self.assert_place(place, Office.replay, naive.example(), good[:place] + [operation] + good[place:])

    def test_the_first_of_malformed_and_failing_entries_counts(self):
        net = naive.example()
        for failing, error in FAILING:
            for malformed in (None, (), ("cancel",), ("undo", 0)):
                self.assert_place(1, Office.replay, net, [("undo",), malformed, failing])
                self.assert_place(1, Office.replay, net, [("undo",), failing, malformed])
                self.assert_place(0, Office.replay, net, [malformed, failing])
                self.assert_place(0, Office.replay, net, [failing, malformed, ("undo",)])

    def test_entries_that_fail_because_of_those_before_them(self):
        net = naive.example()
        self.assert_place(1, Office.replay, net, [("cancel", 2), ("cancel", 2)])
        self.assert_place(3, Office.replay, net, [("cancel", 0)] * 4)
        self.assert_place(3, Office.replay, net, [("add", GOOD), ("cancel", 3), ("undo",), ("cancel", 4)])
        self.assert_place(17, Office.replay, net, [("add", GOOD)] * 18)
        self.assertEqual(len(Office.replay(net, [("add", GOOD)] * 17).present_orders), 20)

    def test_values_that_are_no_lists(self):
        for value in NO_LISTS:
            self.assert_place(0, Office.replay, naive.example(), value)

    def test_the_list_is_as_before(self):
        operations = list(FITTING)
        office = Office.replay(naive.example(), operations)
        self.assertEqual(operations, FITTING)
        operations.clear()
        self.assertEqual(office.operations, ["add", "cancel", "prolong", "raise"])

    def test_as_the_model(self):
        for seed, net in enumerate(naive.random_nets(120)):
            operations = offices.random_operations(seed, net)
            model = Model(net)
            for operation in operations:
                model.execute(operation)
            office = Office.replay(net, operations)
            self.assertEqual((office.present_orders, office.operations), model.state())
