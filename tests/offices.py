"""A slow model of offices, and offices, operations and wrong values for the tests.

The model keeps the operations themselves and executes them all again whenever
it is asked for the orders.
"""

import copy
import random

import naive
from chasepost.errors import InvalidNet
from chasepost.nets import Net
from chasepost.office import Office

FIRST, SECOND, THIRD = naive.EXAMPLE[2]
GOOD = (0, 2, 0, 1, 1)
# What is not an order of the net of the example, of a period of 4 and with 3 houses.
WRONG_ORDERS = (
    None, True, False, 0, 5, "", "order", (), [], [0, 2, 0, 1, 1], (0, 2, 0, 1), (0, 2, 0, 1, 1, 1), (GOOD,),
    (-1, 2, 0, 1, 1), (3, 2, 0, 1, 1), (0, -1, 0, 1, 1), (0, 3, 0, 1, 1), (0, 0, 0, 1, 1), (2, 2, 0, 1, 1),
    (0, 2, -1, 1, 1), (0, 2, 4, 1, 1), (0, 2, 0, 0, 1), (0, 2, 0, -1, 1), (0, 2, 0, 5, 1), (0, 2, 0, 1, 0),
    (0, 2, 0, 1, 10), (0, 2, 0, 1, -1), (0, 2, 0, 1, 10 ** 5000),
)
WRONG_ENTRIES = (
    None, True, 0, "", "undo", "add", [], ["undo"], ["cancel", 0], (), (None,), (0,), (True, 0), ([],), (["undo"],),
    (("undo",),), ((), 0), ("",), ("", 0), ("Undo",), ("UNDO",), ("undo ",), ("un",), ("und",), ("save", "x"),
    ("restore", "x"), ("raise_order", 0), ("batch", []), ("replay", []), ("changes",), ("net", 4, 3),
    ("order", 0, 2, 0, 1, 1),
    ("add",), ("add", 0, 2, 0, 1, 1), ("add", GOOD, 1), ("cancel",), ("cancel", 0, 1), ("prolong",), ("prolong", 0),
    ("prolong", 0, 1, 1), ("raise",), ("raise", 0, 0), ("undo", 1), ("undo", None), ("undo", ()), ("redo", 1),
    ("redo", "redo"),
)


def office():
    return Office(naive.example())


def indexes(count):
    """Return values that are not the number of one of so many orders."""
    return (-1, -count, count, count + 1, 10 ** 5000) + naive.NO_INTEGERS


def whole_state(one):
    """Return what an office shows now, and what it shows whenever an operation is undone or redone."""
    back, forth = copy.deepcopy(one), copy.deepcopy(one)
    trail = [(one.present_orders, one.operations)]
    while back.undo():
        trail.append((back.present_orders, back.operations))
    trail.append(None)
    while forth.redo():
        trail.append((forth.present_orders, forth.operations))
    return trail


class Model:
    """Does what an office does; an operation that fails gives its result as "fails"."""

    def __init__(self, net):
        self.net = net
        self.done = []
        self.undone = []

    def orders(self):
        rows = list(self.net.orders)
        for operation in self.done:
            change(rows, operation)
        return tuple(rows)

    def state(self):
        return self.orders(), [operation[0] for operation in self.done]

    def execute(self, operation):
        if operation[0] == "undo":
            if self.done:
                self.undone.append(self.done.pop())
                return True
            return False
        if operation[0] == "redo":
            if self.undone:
                self.done.append(self.undone.pop())
                return True
            return False
        rows = list(self.orders())
        if operation[0] != "add" and operation[1] not in range(len(rows)):
            return "fails"
        result = change(rows, operation)
        try:
            Net(self.net.period, self.net.houses, tuple(rows))
        except InvalidNet:
            return "fails"
        self.done.append(operation)
        self.undone = []
        return result


def change(rows, operation):
    """Change a list of orders as an operation does and return its result."""
    word, number = operation[0], operation[1]
    if word == "add":
        rows.append(number)
        return len(rows) - 1
    if word == "cancel":
        return rows.pop(number)
    if word == "prolong":
        former = rows[number][3]
        rows[number] = rows[number][:3] + (operation[2],) + rows[number][4:]
        return former
    rows.insert(0, rows.pop(number))
    return None


def random_operation(chance, net, many):
    """Return an operation that mostly does not fail in a net with so many orders."""
    word = chance.choice(("add", "cancel", "prolong", "raise", "undo", "undo", "redo", "redo"))
    if word in ("undo", "redo"):
        return (word,)
    number = chance.randint(0, many)
    if word == "add":
        order = [chance.randrange(net.houses), chance.randrange(net.houses), chance.randrange(net.period)]
        return (word, tuple(order + [chance.randint(1, net.period), chance.randint(1, 9)]))
    if word == "prolong":
        return (word, number, chance.randint(1, net.period + 1))
    return (word, number)


def random_operations(seed, net):
    """Return operations of which each one does not fail after those before it; the same ones for the same seed."""
    chance = random.Random(seed)
    model = Model(net)
    operations = []
    for count in range(chance.randint(0, 25)):
        operation = random_operation(chance, net, len(model.orders()))
        if model.execute(operation) != "fails":
            operations.append(operation)
    return operations
