"""Nets as bytes: point 13."""

import itertools
import unittest

import naive
from chasepost.encoding import decode, encode
from chasepost.errors import InvalidCode
from chasepost.nets import Net

EXAMPLE = [78, 4, 3, 1, 0, 1, 0, 2, 1, 90]
LARGEST = Net(30, 10, ((9, 8, 29, 30, 9),) * 20)
NO_BYTES = (-1, 256, 10 ** 5000, "a", (0, 1)) + naive.NO_INTEGERS


def with_checksum(code):
    """Return a code with the checksum of what precedes it."""
    return code + [sum(code) % 256]


class CodeCase(unittest.TestCase):
    def assert_invalid(self, code, place):
        with self.assertRaises(InvalidCode) as caught:
            decode(code)
        self.assertEqual(caught.exception.place, place)

    def assert_decoded(self, code, period, houses, orders):
        net = decode(code)
        self.assertIsInstance(net, Net)
        self.assertEqual((net.period, net.houses, net.orders), (period, houses, orders))


class Encode(unittest.TestCase):
    def test_example(self):
        self.assertEqual(encode(Net(4, 3, ((0, 1, 0, 2, 1),))), EXAMPLE)

    def test_without_orders(self):
        self.assertEqual(encode(Net(1, 1, ())), [78, 1, 1, 0, 80])
        self.assertEqual(encode(Net(30, 10, ())), [78, 30, 10, 0, 118])

    def test_several_orders_in_their_sequence(self):
        code = [78, 4, 3, 3, 0, 1, 0, 2, 1, 1, 0, 1, 2, 2, 1, 2, 0, 1, 3]
        self.assertEqual(encode(naive.example()), code + [105])

    def test_largest_numbers(self):
        code = encode(LARGEST)
        self.assertEqual(code[:-1], [78, 30, 10, 20] + [9, 8, 29, 30, 9] * 20)
        self.assertEqual(code[-1], 46)

    def test_the_checksum_begins_anew_at_256(self):
        for days, checksum in ((24, 254), (25, 255), (26, 0), (27, 1)):
            net = Net(30, 10, ((9, 8, 28, 30, 9), (9, 8, 0, days, 9)))
            self.assertEqual(sum(encode(net)[:-1]), 230 + days)
            self.assertEqual(encode(net)[-1], checksum)

    def test_new_list(self):
        net = naive.example()
        expected = encode(net)
        encode(net).clear()
        self.assertEqual(encode(net), expected)
        self.assertEqual(net.orders, naive.EXAMPLE[2])


class Decode(CodeCase):
    def test_examples(self):
        self.assert_decoded(EXAMPLE, 4, 3, ((0, 1, 0, 2, 1),))
        self.assert_invalid([78, 4, 1, 1], 3)

    def test_back_and_forth(self):
        for net in naive.random_nets(80) + [LARGEST, Net(1, 1, ()), Net(30, 10, ())]:
            code = encode(net)
            self.assert_decoded(code, net.period, net.houses, net.orders)
            self.assertEqual(code, encode(net))

    def test_the_smallest_and_the_largest_number_at_each_place(self):
        for order in itertools.product((0, 9), (1, 8), (0, 29), (1, 30), (1, 9)):
            self.assert_decoded(with_checksum([78, 30, 10, 1] + list(order)), 30, 10, (order,))

    def test_missing_bytes(self):
        code = encode(naive.example())
        for place in range(len(code)):
            self.assert_invalid(code[:place], place)
        self.assert_invalid([78, 1, 1, 0], 4)

    def test_superfluous_bytes(self):
        for net in (Net(1, 1, ()), naive.example(), LARGEST):
            code = encode(net)
            for more in ([0], [78], [None], [1, 2, 3], [code[-1]], code):
                self.assert_invalid(code + more, len(code))

    def test_wrong_checksums(self):
        for net in (Net(1, 1, ()), naive.example(), LARGEST):
            code = encode(net)
            for wrong in range(256):
                if wrong != code[-1]:
                    self.assert_invalid(code[:-1] + [wrong], len(code) - 1)
                    self.assert_invalid(code[:-1] + [wrong, 0], len(code) - 1)
        code = encode(LARGEST)
        self.assert_invalid(code[:-1] + [code[-1] + 256], len(code) - 1)
        self.assert_invalid(code[:-1] + [sum(code[:-1])], len(code) - 1)

    def test_items_that_are_no_bytes(self):
        code = encode(naive.example())
        for place, value in itertools.product(range(len(code)), NO_BYTES):
            self.assert_invalid(code[:place] + [value] + code[place + 1:], place)

    def test_true_and_false_are_no_bytes_even_where_0_and_1_are_valid(self):
        # All bytes of this net are 0 or 1 but for the first one, the houses and the checksum.
        code = encode(Net(1, 2, ((1, 0, 0, 1, 1),)))
        self.assertEqual(code, [78, 1, 2, 1, 1, 0, 0, 1, 1, 85])
        for place in (1, 3, 4, 5, 6, 7, 8):
            self.assert_invalid(code[:place] + [bool(code[place])] + code[place + 1:], place)
        code = [78, 30, 10, 2, 9, 8, 28, 30, 9, 9, 8, 0, 26, 9]
        self.assertEqual(len(decode(code + [0]).orders), 2)
        self.assert_invalid(code + [False], 14)

    def test_first_byte(self):
        for value in range(256):
            if value != 78:
                self.assert_invalid([value] + EXAMPLE[1:], 0)
                self.assert_invalid(with_checksum([value] + EXAMPLE[1:-1]), 0)

    def test_periods(self):
        for period in range(256):
            code = with_checksum([78, period, 1, 0])
            if 1 <= period <= 30:
                self.assert_decoded(code, period, 1, ())
            else:
                self.assert_invalid(code, 1)

    def test_numbers_of_houses(self):
        for houses in range(256):
            code = with_checksum([78, 5, houses, 0])
            if 1 <= houses <= 10:
                self.assert_decoded(code, 5, houses, ())
            else:
                self.assert_invalid(code, 2)

    def test_numbers_of_orders(self):
        for many in range(45):
            code = with_checksum([78, 5, 2, many] + [0, 1, 0, 1, 1] * many)
            if many <= 20:
                self.assert_decoded(code, 5, 2, ((0, 1, 0, 1, 1),) * many)
            else:
                self.assert_invalid(code, 3)

    def test_nets_with_one_house(self):
        self.assert_decoded(with_checksum([78, 5, 1, 0]), 5, 1, ())
        for many in (1, 2, 20, 21, 255):
            self.assert_invalid(with_checksum([78, 5, 1, many] + [0, 0, 0, 1, 1] * many), 3)
            self.assert_invalid([78, 5, 1, many], 3)

    def test_numbers_of_an_order(self):
        # The valid numbers at each place of the second order behind those before it, which are 2, 1, 3, 4 and 5.
        valid = ((0, 1, 2), (0, 1), (0, 1, 2, 3, 4, 5, 6), (1, 2, 3, 4, 5, 6, 7), (1, 2, 3, 4, 5, 6, 7, 8, 9))
        for place in range(5):
            for value in range(256):
                order = [2, 1, 3, 4, 5]
                order[place] = value
                if place == 0 and value == 1:
                    order[1] = 0
                code = with_checksum([78, 7, 3, 3, 0, 1, 0, 1, 1] + order + [2, 0, 0, 1, 1])
                if value in valid[place]:
                    self.assert_decoded(code, 7, 3, ((0, 1, 0, 1, 1), tuple(order), (2, 0, 0, 1, 1)))
                else:
                    self.assert_invalid(code, 9 + place)

    def test_a_target_that_is_the_source(self):
        for house in range(4):
            self.assert_invalid(with_checksum([78, 7, 4, 1, house, house, 0, 1, 1]), 5)
            self.assert_invalid([78, 7, 4, 1, house, house], 5)

    def test_the_first_fault_counts(self):
        self.assert_invalid([77, 0, 0, 99], 0)
        self.assert_invalid([78, 31, 0, 99], 1)
        self.assert_invalid([78, 30, 11, 99], 2)
        self.assert_invalid([78, 30, 10, 21], 3)
        self.assert_invalid([78, 30, 10, 20, 10, 10], 4)
        self.assert_invalid([78, 30, 10, 20, 9, 9, 30], 5)
        self.assert_invalid([78, 30, 10, 20, 9, 8, 30, 31, 10], 6)
        self.assert_invalid([78, 30, 10, 20, 9, 8, 29, 31, 10], 7)
        self.assert_invalid([78, 30, 10, 20, 9, 8, 29, 30, 10], 8)
        self.assert_invalid([78, 30, 10, 20, 9, 8, 29, 30, 9, None], 9)
        self.assert_invalid([None, None], 0)

    def test_values_that_are_no_lists(self):
        for value in (None, True, False, 0, 78, "", "N", (), tuple(EXAMPLE), (EXAMPLE,), 10 ** 5000):
            self.assert_invalid(value, 0)
        self.assert_invalid([], 0)
        self.assert_invalid([EXAMPLE], 0)

    def test_the_list_is_as_before(self):
        code = list(EXAMPLE)
        net = decode(code)
        self.assertEqual(code, EXAMPLE)
        code.clear()
        self.assertEqual(net.orders, ((0, 1, 0, 2, 1),))
        code = EXAMPLE[:-1] + [None]
        self.assert_invalid(code, 9)
        self.assertEqual(code, EXAMPLE[:-1] + [None])
