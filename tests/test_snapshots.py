"""Snapshots of offices: point 14."""

import unittest

import naive
import offices
from chasepost.errors import InvalidName, UnknownName, UnknownOrder
from chasepost.office import Office
from offices import FIRST, GOOD, SECOND, THIRD, whole_state

NO_NAMES = (
    "", "abcdefghi", "abcdefghij" * 5, "A", "Ab", "aB", "abcdefgH", "ABC", "a1", "1", "1a", "12345678", "a b", " a",
    "a ", " ", "a_b", "_", "a-b", "a.b", "a\n", "\n", "a\t", "{", "`", "@", "[", "z{", "\u00e9", "\u00df", "\u03b1",
    "\u0430", "\u00aa", "\u02b0", "\u0131", "a\u0301", "\uff41",
)
NO_STRINGS = (
    None, True, False, 0, 1, -1, 10 ** 5000, (), ("x",), ("a", "b"), [], ["x"], ([],), (["x"],), (("x",),), [[]],
)


class SnapshotCase(unittest.TestCase):
    def setUp(self):
        self.office = offices.office()

    def assert_shown(self, orders, words):
        self.assertEqual((self.office.present_orders, self.office.operations), (orders, words))


class Names(SnapshotCase):
    def test_names_of_one_to_eight_letters(self):
        for name in ("a", "z", "m", "ab", "az", "abcdefgh", "zzzzzzzz", "ijklmnop", "qrstuvwx", "undo", "add"):
            self.assertIsNone(self.office.save(name))
            self.office.cancel(0)
            self.assertIsNone(self.office.restore(name))
            self.assert_shown((FIRST, SECOND, THIRD), [])

    def test_invalid_names(self):
        self.office.cancel(0)
        before = whole_state(self.office)
        for name in NO_NAMES + NO_STRINGS:
            with self.assertRaises(InvalidName):
                self.office.save(name)
        self.assertEqual(whole_state(self.office), before)
        for name in NO_NAMES + NO_STRINGS:
            with self.assertRaises(UnknownName):
                self.office.restore(name)

    def test_unknown_names(self):
        self.office.save("x")
        self.office.cancel(0)
        self.office.undo()
        before = whole_state(self.office)
        for name in ("y", "xx", "X", "x ", "abcdefgh") + NO_NAMES + NO_STRINGS:
            with self.assertRaises(UnknownName):
                self.office.restore(name)
            self.assertEqual(whole_state(self.office), before)
        self.office.restore("x")

    def test_names_of_other_offices(self):
        other = Office(naive.example())
        other.save("x")
        with self.assertRaises(UnknownName):
            self.office.restore("x")


class Snapshots(SnapshotCase):
    def test_example(self):
        self.office.save("x")
        self.office.cancel(0)
        self.office.restore("x")
        self.assert_shown((FIRST, SECOND, THIRD), [])

    def test_each_operation_in_effect_comes_back(self):
        self.office.add(GOOD)
        self.office.prolong(0, 4)
        self.office.save("x")
        saved = whole_state(self.office)
        self.office.raise_order(3)
        self.office.cancel(0)
        self.office.restore("x")
        self.assertEqual(whole_state(self.office), saved)
        self.assert_shown(((0, 1, 0, 4, 1), SECOND, THIRD, GOOD), ["add", "prolong"])

    def test_saving_changes_nothing(self):
        self.office.cancel(0)
        self.office.cancel(0)
        self.office.undo()
        before = whole_state(self.office)
        self.office.save("x")
        self.assertEqual(whole_state(self.office), before)
        self.office.restore("x")
        self.assertEqual(whole_state(self.office), before)

    def test_undo_and_redo_are_as_when_it_was_saved(self):
        self.office.cancel(0)
        self.office.raise_order(1)
        self.office.add(GOOD)
        self.office.undo()
        self.office.undo()
        saved = whole_state(self.office)
        self.office.save("x")
        # The new operation leaves nothing to be redone here, but not in the snapshot.
        self.office.prolong(0, 4)
        self.assertIs(self.office.redo(), False)
        self.office.restore("x")
        self.assertEqual(whole_state(self.office), saved)
        self.assertEqual([self.office.redo(), self.office.redo(), self.office.redo()], [True, True, False])
        self.assert_shown((THIRD, SECOND, GOOD), ["cancel", "raise", "add"])
        self.office.restore("x")
        self.assertEqual([self.office.undo(), self.office.undo()], [True, False])
        self.assertEqual([self.office.redo(), self.office.redo(), self.office.redo()], [True] * 3)
        self.assertIs(self.office.redo(), False)

    def test_operations_that_were_undone_when_it_was_restored(self):
        self.office.cancel(0)
        self.office.save("x")
        self.office.raise_order(1)
        self.office.undo()
        self.office.restore("x")
        # There was nothing to be redone when it was saved.
        self.assertIs(self.office.redo(), False)
        self.assertEqual([self.office.undo(), self.office.undo()], [True, False])
        self.assert_shown((FIRST, SECOND, THIRD), [])

    def test_operations_that_were_undone_after_it_was_saved(self):
        self.office.cancel(0)
        self.office.save("x")
        self.office.undo()
        self.office.restore("x")
        self.assert_shown((SECOND, THIRD), ["cancel"])
        self.assertIs(self.office.redo(), False)

    def test_restored_twice(self):
        self.office.cancel(0)
        self.office.save("x")
        saved = whole_state(self.office)
        for count in range(3):
            self.office.add(GOOD)
            self.office.undo()
            self.office.undo()
            self.office.raise_order(2)
            self.office.restore("x")
            self.assertEqual(whole_state(self.office), saved)

    def test_operations_after_restoring_do_not_change_the_snapshot(self):
        self.office.save("x")
        saved = whole_state(self.office)
        self.office.restore("x")
        self.office.cancel(0)
        self.office.cancel(0)
        self.office.undo()
        self.office.restore("x")
        self.assertEqual(whole_state(self.office), saved)

    def test_a_snapshot_that_is_replaced(self):
        self.office.save("x")
        self.office.cancel(0)
        self.office.save("x")
        self.office.cancel(0)
        self.office.restore("x")
        self.assert_shown((SECOND, THIRD), ["cancel"])
        self.office.undo()
        self.office.save("x")
        self.office.redo()
        self.office.restore("x")
        self.assert_shown((FIRST, SECOND, THIRD), [])
        self.assertIs(self.office.redo(), True)

    def test_snapshots_stand_when_an_older_one_is_restored(self):
        self.office.save("old")
        self.office.cancel(0)
        self.office.save("new")
        self.office.restore("old")
        self.assert_shown((FIRST, SECOND, THIRD), [])
        self.office.restore("new")
        self.assert_shown((SECOND, THIRD), ["cancel"])
        self.office.restore("old")
        self.office.save("new")
        self.office.raise_order(2)
        self.office.restore("new")
        self.assert_shown((FIRST, SECOND, THIRD), [])

    def test_a_replaced_snapshot_stays_replaced_when_an_older_one_is_restored(self):
        self.office.save("one")
        self.office.save("two")
        self.office.cancel(0)
        self.office.save("two")
        self.office.restore("one")
        self.office.restore("two")
        self.assert_shown((SECOND, THIRD), ["cancel"])

    def test_saving_and_restoring_are_no_operations(self):
        self.office.cancel(0)
        self.office.save("x")
        self.office.restore("x")
        self.assert_shown((SECOND, THIRD), ["cancel"])
        self.office.undo()
        self.office.save("y")
        self.assertIs(self.office.redo(), True)
        self.office.restore("y")
        # What was undone is not the restoring.
        self.assertEqual([self.office.undo(), self.office.redo()], [False, True])
        self.assert_shown((SECOND, THIRD), ["cancel"])

    def test_undo_does_not_remove_snapshots(self):
        self.office.cancel(0)
        self.office.save("x")
        self.office.undo()
        self.office.add(GOOD)
        self.office.restore("x")
        self.assert_shown((SECOND, THIRD), ["cancel"])

    def test_numbers_are_those_of_the_restored_net(self):
        self.office.save("x")
        self.office.cancel(0)
        with self.assertRaises(UnknownOrder):
            self.office.cancel(2)
        self.office.restore("x")
        self.assertEqual(self.office.cancel(2), THIRD)
