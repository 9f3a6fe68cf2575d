"""Texts of nets: point 12."""

import unittest

import naive
from chasepost.errors import InvalidNet, TextFault
from chasepost.nets import Net

FAULTY_NUMBERS = (
    "", "00", "01", "001", "0000", "1000", "9999", "12345", "+1", "-1", "-0", "1.0", "1e1", "1_0", "0x1", "a", "1a",
    "One", "\t1", "1\t", "1\r", "\u00b2", "\u0661", "~",
)


class TextCase(unittest.TestCase):
    def assert_fault(self, text, line):
        with self.subTest(text=text):
            with self.assertRaises(TextFault) as caught:
                Net.parse(text)
            self.assertEqual(caught.exception.line, line)

    def assert_invalid(self, text, part, index):
        with self.subTest(text=text):
            with self.assertRaises(InvalidNet) as caught:
                Net.parse(text)
            self.assertEqual((caught.exception.part, caught.exception.index), (part, index))


class Text(unittest.TestCase):
    def test_example(self):
        self.assertEqual(naive.example().text, "net 4 3\norder 0 1 0 2 1\norder 1 0 1 2 2\norder 1 2 0 1 3")

    def test_without_orders(self):
        self.assertEqual(Net(30, 10, ()).text, "net 30 10")

    def test_idle_orders_are_in_the_text(self):
        net = Net(12, 10, ((9, 1, 11, 12, 9), (9, 1, 11, 12, 9)))
        self.assertEqual(net.text, "net 12 10\norder 9 1 11 12 9\norder 9 1 11 12 9")


class Parse(TextCase):
    def test_example(self):
        self.assertEqual(Net.parse("net 4 3\norder 0 1 0 2 1").orders, ((0, 1, 0, 2, 1),))
        self.assert_fault("net 4 3\norder 0 1", 1)

    def test_it_returns_a_net(self):
        net = Net.parse("net 7 2")
        self.assertIsInstance(net, Net)
        self.assertEqual((net.period, net.houses, net.orders), (7, 2, ()))

    def test_back_and_forth(self):
        for net in naive.random_nets(60) + [Net(30, 10, ((9, 0, 29, 30, 9),) * 20)]:
            other = Net.parse(net.text)
            self.assertEqual((other.period, other.houses, other.orders), (net.period, net.houses, net.orders))
            self.assertEqual(other.text, net.text)

    def test_empty_lines(self):
        self.assert_fault("", 0)
        self.assert_fault("\n", 0)
        self.assert_fault("\nnet 4 3", 0)
        self.assert_fault("net 4 3\n", 1)
        self.assert_fault("net 4 3\n\norder 0 1 0 2 1", 1)
        self.assert_fault("net 4 3\norder 0 1 0 2 1\n", 2)

    def test_first_line_that_is_no_net(self):
        for line in ("order 0 1 0 2 1", "Net 4 3", "nets 4 3", "ne 4 3", "4 3", "net4 3", "changes", " net 4 3", " "):
            self.assert_fault(line, 0)
            self.assert_fault(line + "\norder 0 1 0 2 1", 0)

    def test_other_lines_that_are_no_order(self):
        for line in ("net 4 3", "Order 0 1 0 2 1", "orders 0 1 0 2 1", "0 1 0 2 1", "changes", " order 0 1 0 2 1", " "):
            self.assert_fault("net 4 3\n" + line, 1)
            self.assert_fault("net 4 3\norder 0 1 0 2 1\n" + line + "\norder 0", 2)

    def test_wrong_counts_of_numbers(self):
        for line in ("net", "net 4", "net 4 3 2", "net 4 3 0 1 0"):
            self.assert_fault(line, 0)
        for line in ("order", "order 0 1 0 2", "order 0 1 0 2 1 1", "order 0 1"):
            self.assert_fault("net 4 3\n" + line, 1)

    def test_spaces(self):
        for line in ("net  4 3", "net 4  3", "net 4 3 ", "net 4 ", "net "):
            self.assert_fault(line, 0)
        for line in ("order  0 1 0 2 1", "order 0 1 0 2  1", "order 0 1 0 2 1 ", "order 0 1 0 2 "):
            self.assert_fault("net 4 3\n" + line, 1)

    def test_faulty_numbers(self):
        for number in FAULTY_NUMBERS:
            self.assert_fault(f"net {number} 3", 0)
            self.assert_fault(f"net 4 {number}", 0)
            for place in range(5):
                words = ["0", "1", "0", "2", "1"]
                words[place] = number
                self.assert_fault("net 4 3\norder 0 1 0 2 1\norder " + " ".join(words), 2)

    def test_only_line_feeds_end_lines(self):
        for end in ("\r", "\r\n", "\x0b", "\x0c", "\x1c", "\x85", "\u2028"):
            self.assert_fault(f"net 4 3{end}order 0 1 0 2 1", 0)

    def test_the_first_faulty_line_counts(self):
        self.assert_fault("net 4 3\norder 0 1 0 2 1\norder 0\nnet\n", 2)
        self.assert_fault("net 4\norder 0", 0)

    def test_values_that_are_no_texts(self):
        for value in (None, True, False, 0, 4, (), ("net 4 3",), [], ["net 4 3"]):
            self.assert_fault(value, 0)

    def test_invalid_nets(self):
        self.assert_invalid("net 0 3", "period", 0)
        self.assert_invalid("net 31 3", "period", 0)
        self.assert_invalid("net 999 999", "period", 0)
        self.assert_invalid("net 4 0", "houses", 0)
        self.assert_invalid("net 4 100", "houses", 0)
        self.assert_invalid("net 4 3\norder 0 1 0 2 1\norder 0 1 0 2 100", "orders", 1)
        self.assert_invalid("net 4 1\norder 0 0 0 1 1", "orders", 0)
        self.assert_invalid("net 4 3" + "\norder 0 1 0 2 1" * 21, "orders", 20)

    def test_faulty_lines_go_before_invalid_nets(self):
        self.assert_fault("net 0 3\norder 0 0 0 0 0\norder", 2)
        self.assert_fault("net 4 3" + "\norder 0 1 0 2 1" * 25 + "\norder 0 1 0 2 1 ", 26)
