"""Sessions: point 16."""

import unittest

import naive
import offices
from chasepost.errors import InvalidNet, InvalidOperation, TextFault
from chasepost.nets import Net
from chasepost.office import format_session, parse_session
from offices import GOOD

EXAMPLE_TEXT = "net 4 3\norder 0 1 0 2 1\norder 1 0 1 2 2\norder 1 2 0 1 3"
HEAD = "net 4 3\norder 0 1 0 2 1\nchanges\n"
OPERATIONS = [
    ("add", GOOD), ("cancel", 0), ("prolong", 2, 4), ("raise", 1), ("undo",), ("undo",), ("redo",),
    ("add", (2, 1, 3, 4, 9)),
]
LINES = ["add 0 2 0 1 1", "cancel 0", "prolong 2 4", "raise 1", "undo", "undo", "redo", "add 2 1 3 4 9"]
FAULTY_NUMBERS = (
    "", "00", "01", "001", "0000", "1000", "9999", "12345", "+1", "-1", "-0", "1.0", "1e1", "1_0", "0x1", "a", "1a",
    "undo", "~", "(0", "1,", "None",
)


class SessionCase(unittest.TestCase):
    def assert_fault(self, text, line):
        with self.subTest(text=text):
            with self.assertRaises(TextFault) as caught:
                parse_session(text)
            self.assertEqual(caught.exception.line, line)

    def assert_invalid(self, text, part, index):
        with self.subTest(text=text):
            with self.assertRaises(InvalidNet) as caught:
                parse_session(text)
            self.assertEqual((caught.exception.part, caught.exception.index), (part, index))

    def assert_place(self, place, function, *arguments):
        with self.assertRaises(InvalidOperation) as caught:
            function(*arguments)
        self.assertEqual(caught.exception.place, place)


class FormatSession(SessionCase):
    def test_example(self):
        net = Net(4, 3, ((0, 1, 0, 2, 1),))
        text = format_session(net, [("prolong", 0, 4), ("undo",)])
        self.assertEqual(text, "net 4 3\norder 0 1 0 2 1\nchanges\nprolong 0 4\nundo")

    def test_without_operations(self):
        self.assertEqual(format_session(naive.example(), []), EXAMPLE_TEXT + "\nchanges")
        self.assertEqual(format_session(Net(30, 10, ()), []), "net 30 10\nchanges")

    def test_each_operation(self):
        self.assertEqual(format_session(naive.example(), OPERATIONS), "\n".join([EXAMPLE_TEXT, "changes"] + LINES))
        net = naive.example()
        for operation, line in zip(
            (("add", GOOD), ("cancel", 2), ("prolong", 0, 1), ("raise", 0), ("undo",), ("redo",)),
            ("add 0 2 0 1 1", "cancel 2", "prolong 0 1", "raise 0", "undo", "redo"),
        ):
            self.assertEqual(format_session(net, [operation]), EXAMPLE_TEXT + "\nchanges\n" + line)

    def test_largest_numbers(self):
        net = Net(30, 10, ((9, 8, 29, 30, 9),) * 20)
        text = format_session(net, [("cancel", 19), ("add", (9, 8, 29, 30, 9)), ("prolong", 19, 30), ("raise", 19)])
        lines = ["changes", "cancel 19", "add 9 8 29 30 9", "prolong 19 30", "raise 19"]
        self.assertEqual(text, "\n".join([net.text] + lines))

    def test_malformed_operations(self):
        good = [("cancel", 0), ("undo",), ("add", GOOD)]
        for entry in offices.WRONG_ENTRIES:
            for place in range(4):
                self.assert_place(place, format_session, naive.example(), good[:place] + [entry] + good[place:])

    def test_operations_that_fail(self):
        net = naive.example()
        for entry in (
            ("add", None), ("add", (0, 0, 0, 1, 1)), ("add", (0, 2, 0, 1, True)), ("add", "01011"), ("cancel", 3),
            ("cancel", None), ("prolong", 3, 1), ("prolong", 0, 5), ("prolong", 0, []), ("raise", -1), ("raise", False),
        ):
            self.assert_place(0, format_session, net, [entry])
            self.assert_place(1, format_session, net, [("undo",), entry, None])
        self.assert_place(1, format_session, net, [("undo",), None, ("cancel", 3)])
        self.assert_place(3, format_session, net, [("cancel", 0)] * 5)
        self.assert_place(17, format_session, net, [("add", GOOD)] * 18)

    def test_values_that_are_no_lists(self):
        for value in (None, True, 0, "", "undo", (), (("undo",),)):
            self.assert_place(0, format_session, naive.example(), value)

    def test_the_arguments_are_as_before(self):
        net = naive.example()
        operations = list(OPERATIONS)
        format_session(net, operations)
        self.assertEqual((operations, net.orders), (OPERATIONS, naive.EXAMPLE[2]))


class ParseSession(SessionCase):
    def test_example(self):
        self.assertEqual(parse_session("net 4 3\nchanges\nadd 0 1 0 2 1"), ("net 4 3", [("add", (0, 1, 0, 2, 1))]))

    def test_without_operations(self):
        self.assertEqual(parse_session("net 30 10\nchanges"), ("net 30 10", []))
        self.assertEqual(parse_session(EXAMPLE_TEXT + "\nchanges"), (EXAMPLE_TEXT, []))

    def test_each_operation(self):
        text = "\n".join([EXAMPLE_TEXT, "changes"] + LINES)
        self.assertEqual(parse_session(text), (EXAMPLE_TEXT, OPERATIONS))
        found, operations = parse_session(text)
        self.assertIsInstance(operations, list)
        self.assertEqual({operation.__class__ for operation in operations}, {tuple})

    def test_back_and_forth(self):
        for seed, net in enumerate(naive.random_nets(150)):
            operations = offices.random_operations(seed, net)
            text = format_session(net, operations)
            self.assertEqual(parse_session(text), (net.text, operations))
            found, again = parse_session(text)
            self.assertEqual(format_session(Net.parse(found), again), text)

    def test_no_line_changes(self):
        for text, count in (
            ("", 1), ("\n", 2), ("net 4 3", 1), (EXAMPLE_TEXT, 4), ("net 4 3\nundo\nredo\n", 4), ("order\nundo", 2),
            ("net 4 3\nchange", 2), ("net 4 3\nChanges", 2), ("net 4 3\nchanges ", 2), ("net 4 3\n changes", 2),
            ("net 4 3\nchanges 0", 2), ("net 4 3\nchangesundo\n\n", 4), ("net 4 3 changes", 1), ("net 0 0\nnet", 2),
            ("net 0 3\nundo 1", 2),
        ):
            self.assert_fault(text, count)

    def test_faulty_lines_before_changes(self):
        self.assert_fault("changes", 0)
        self.assert_fault("changes\nnet 4 3", 0)
        self.assert_fault("changes\nchanges", 0)
        self.assert_fault("\nchanges", 0)
        self.assert_fault("\n\nchanges", 0)
        self.assert_fault("net 4 3\n\nchanges", 1)
        self.assert_fault("\nnet 4 3\nchanges", 0)
        for line in ("net 4", "net 4 3 2", "net  4 3", "net 04 3", "net 4 1000", "order 0 1 0 2 1", "undo", " net 4 3"):
            self.assert_fault(line + "\nchanges", 0)
        for line in ("order 0 1 0 2", "order 0 1 0 2 1 ", "order 0 1 0  2 1", "order 0 1 0 02 1", "net 4 3", "undo"):
            self.assert_fault("net 4 3\n" + line + "\nchanges\nundo", 1)
            self.assert_fault("net 4 3\norder 0 1 0 2 1\n" + line + "\norder\nchanges", 2)

    def test_faulty_lines_go_before_invalid_nets(self):
        self.assert_fault("net 0 3\norder\nchanges", 1)
        self.assert_fault("net 4 3\norder 0 0 0 0 0\norder 0 1 0 2 01\nchanges\nundo 1", 2)

    def test_invalid_nets_go_before_faulty_lines_behind_changes(self):
        for rest in ("", "\n", "\nchanges", "\nundo 1", "\ncancel 9", "\nadd 0 0 0 0 0", "\nundo"):
            self.assert_invalid("net 0 3\nchanges" + rest, "period", 0)
            self.assert_invalid("net 4 11\norder 0 1 0 2 1\nchanges" + rest, "houses", 0)
            self.assert_invalid("net 4 3\norder 0 1 0 2 1\norder 0 0 0 1 1\nchanges" + rest, "orders", 1)
            self.assert_invalid("net 4 3" + "\norder 0 1 0 2 1" * 21 + "\nchanges" + rest, "orders", 20)

    def test_faulty_lines_before_changes_go_before_those_behind_it(self):
        self.assert_fault("net 4\nchanges\nundo 1", 0)
        self.assert_fault("net 4 3\norder 0 1\nchanges\nundo 1", 1)

    def test_words_that_are_no_operations(self):
        for line in (
            "", " ", "changes", "Undo", "UNDO", "und", "undone", "undo0", "save x", "restore x", "raise_order 0",
            "batch", "net 4 3", "order 0 1 0 2 1", "0", "0 0", "~", "#", "add0 1 0 2 1", "None",
        ):
            self.assert_fault(HEAD + line, 3)
            self.assert_fault(HEAD + "undo\n" + line, 4)
            self.assert_fault(HEAD + line + "\nundo", 3)
            self.assert_fault(HEAD + "undo\n" + line + "\nundo 1", 4)

    def test_two_lines_changes(self):
        self.assert_fault("net 4 3\nchanges\nchanges", 2)
        self.assert_fault("net 4 3\nchanges\nundo\nchanges\nundo", 3)
        self.assert_fault("net 4 3\nchanges\norder 0 1 0 2 1\nchanges", 2)

    def test_wrong_counts_of_numbers(self):
        for line in (
            "add", "add 0", "add 0 1 0 2", "add 0 1 0 2 1 1", "cancel", "cancel 0 0", "prolong", "prolong 0",
            "prolong 0 1 1", "raise", "raise 0 0", "undo 0", "undo 1", "redo 0", "redo 1",
        ):
            self.assert_fault(HEAD + line, 3)
            self.assert_fault(HEAD + "undo\nundo\n" + line + "\nundo", 5)

    def test_spaces(self):
        for line in (
            " undo", "undo ", " redo", "redo ", "cancel  0", "cancel 0 ", " cancel 0", "cancel ", "raise  0", "raise ",
            "prolong  0 1", "prolong 0  1", "prolong 0 1 ", "prolong 0 ", "add  0 1 0 2 1", "add 0 1 0  2 1",
            "add 0 1 0 2 1 ", "add 0 1 0 2 ", "  ",
        ):
            self.assert_fault(HEAD + line, 3)

    def test_faulty_numbers(self):
        for number in FAULTY_NUMBERS:
            for words in (["add", "0", "1", "0", "2", "1"], ["cancel", "0"], ["prolong", "0", "1"], ["raise", "0"]):
                for place in range(1, len(words)):
                    line = words[:place] + [number] + words[place + 1:]
                    self.assert_fault(HEAD + "undo\n" + " ".join(line), 4)

    def test_empty_lines(self):
        self.assert_fault("net 4 3\nchanges\n", 2)
        self.assert_fault("net 4 3\nchanges\n\nundo", 2)
        self.assert_fault("net 4 3\nchanges\nundo\n", 3)
        self.assert_fault("net 4 3\nchanges\nundo\n\n", 3)

    def test_faulty_lines_go_before_operations_that_fail(self):
        self.assert_fault(HEAD + "cancel 9\nundo 1", 4)
        self.assert_fault(HEAD + "cancel 999\nadd 0 0 0 0 0\n", 5)

    def test_operations_that_fail(self):
        for line in (
            "add 0 0 0 1 1", "add 3 0 0 1 1", "add 0 3 0 1 1", "add 0 1 4 1 1", "add 0 1 0 0 1", "add 0 1 0 5 1",
            "add 0 1 0 1 0", "add 0 1 0 1 10", "add 999 999 999 999 999", "cancel 1", "cancel 999", "prolong 1 1",
            "prolong 0 0", "prolong 0 5", "prolong 0 999", "raise 1", "raise 100",
        ):
            self.assert_place(0, parse_session, HEAD + line)
            self.assert_place(2, parse_session, HEAD + "undo\nraise 0\n" + line + "\nundo")
            self.assert_place(1, parse_session, HEAD + "redo\n" + line + "\ncancel 99")

    def test_operations_that_fail_because_of_those_before_them(self):
        self.assert_place(1, parse_session, HEAD + "cancel 0\ncancel 0")
        self.assert_place(19, parse_session, HEAD + "\n".join(["add 0 1 0 1 1"] * 20))
        self.assertEqual(len(parse_session(HEAD + "\n".join(["add 0 1 0 1 1"] * 19))[1]), 19)
        self.assertEqual(
            parse_session(HEAD + "cancel 0\nundo\ncancel 0")[1], [("cancel", 0), ("undo",), ("cancel", 0)],
        )

    def test_undo_and_redo_without_an_operation_do_not_fail(self):
        self.assertEqual(parse_session("net 4 3\nchanges\nundo\nredo"), ("net 4 3", [("undo",), ("redo",)]))

    def test_values_that_are_no_texts(self):
        for value in (None, True, False, 0, 4, (), ("changes",), [], ["net 4 3", "changes"]):
            self.assert_fault(value, 0)

    def test_new_list(self):
        parse_session("net 4 3\nchanges\nundo")[1].clear()
        self.assertEqual(parse_session("net 4 3\nchanges\nundo"), ("net 4 3", [("undo",)]))
