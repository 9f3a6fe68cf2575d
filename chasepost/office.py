"""An office in which the orders of a net are changed, and sessions of its operations."""

from chasepost.checks import check_index, read_line
from chasepost.errors import (
    InvalidName, InvalidOperation, InvalidOrder, PostError, TextFault, TooManyOrders, UnknownName,
)
from chasepost.nets import MOST_ORDERS, Net, is_order, with_order, without_order

LONGEST_NAME = 8
ARGUMENTS = {"add": 1, "cancel": 1, "prolong": 2, "raise": 1, "undo": 0, "redo": 0}
NUMBERS = {"add": 5, "cancel": 1, "prolong": 2, "raise": 1, "undo": 0, "redo": 0}


class Office:
    """A net whose orders are changed by operations, which can be undone and redone."""

    def __init__(self, net):
        self.net = net
        # The steps are (word, orders behind it); those that were undone stand behind those in effect.
        self.steps = ()
        self.effective = 0
        self.snapshots = {}

    def add(self, order):
        """Add an order at the end and return its number."""
        if not is_order(self.net.period, self.net.houses, order):
            raise InvalidOrder("the value is not an order of the net")
        orders = self.present_orders
        if len(orders) == MOST_ORDERS:
            raise TooManyOrders("a net has at most 20 orders")
        self.take_step("add", orders + (order,))
        return len(orders)

    def cancel(self, index):
        """Remove an order and return it."""
        orders = self.present_orders
        check_index(orders, index)
        self.take_step("cancel", without_order(orders, index))
        return orders[index]

    def prolong(self, index, days):
        """Replace the number of days of an order and return the former one."""
        orders = self.present_orders
        check_index(orders, index)
        source, target, first, former, delay = orders[index]
        order = (source, target, first, days, delay)
        if not is_order(self.net.period, self.net.houses, order):
            raise InvalidOrder("an order cannot hold on so many days")
        self.take_step("prolong", with_order(orders, index, order))
        return former

    def raise_order(self, index):
        """Move an order to the beginning."""
        orders = self.present_orders
        check_index(orders, index)
        self.take_step("raise", (orders[index],) + without_order(orders, index))

    def undo(self):
        """Undo the last operation that is in effect and return whether there was one."""
        if self.effective == 0:
            return False
        self.effective -= 1
        return True

    def redo(self):
        """Repeat the operation that was undone last and return whether there was one."""
        if self.effective == len(self.steps):
            return False
        self.effective += 1
        return True

    @property
    def present_orders(self):
        """The orders of the present net, a tuple."""
        if self.effective == 0:
            return self.net.orders
        return self.steps[self.effective - 1][1]

    @property
    def operations(self):
        """The list of the words of all operations in effect, in order."""
        return [step[0] for step in self.steps[:self.effective]]

    def save(self, name):
        """Save the complete state under a name."""
        if not is_name(name):
            raise InvalidName("a name has one to eight letters a to z")
        self.snapshots[name] = (self.steps, self.effective)

    def restore(self, name):
        """Restore the state that was saved under a name."""
        # Other values than names may be lists, which cannot be looked up.
        if not is_name(name) or name not in self.snapshots:
            raise UnknownName("there is no snapshot of this name")
        self.steps, self.effective = self.snapshots[name]

    def batch(self, operations):
        """Execute operations, all or none, and return the list of their results."""
        check_operations(operations)
        before = (self.steps, self.effective)
        try:
            return [self.execute(operation) for operation in operations]
        except PostError:
            self.steps, self.effective = before
            raise

    @classmethod
    def replay(cls, net, operations):
        """Return an office after executing operations on a new one."""
        if not isinstance(operations, list):
            raise InvalidOperation(0)
        office = cls(net)
        for place, operation in enumerate(operations):
            if not is_operation(operation):
                raise InvalidOperation(place)
            try:
                office.execute(operation)
            except PostError:
                raise InvalidOperation(place) from None
        return office

    def take_step(self, word, orders):
        """Go on to other orders by an operation; those that were undone cannot be redone any more."""
        self.steps = self.steps[:self.effective] + ((word, orders),)
        self.effective += 1

    def execute(self, operation):
        """Execute an operation, a tuple of the right form, and return its result."""
        word = operation[0]
        if word == "add":
            return self.add(operation[1])
        if word == "cancel":
            return self.cancel(operation[1])
        if word == "prolong":
            return self.prolong(operation[1], operation[2])
        if word == "raise":
            return self.raise_order(operation[1])
        if word == "undo":
            return self.undo()
        return self.redo()


def is_name(value):
    """Tell whether a value is a name of a snapshot."""
    if not isinstance(value, str) or len(value) > LONGEST_NAME:
        return False
    return value.isascii() and value.isalpha() and value.islower()


def is_operation(entry):
    """Tell whether an entry is a tuple of a word and the right number of arguments."""
    if not isinstance(entry, tuple) or len(entry) == 0 or not isinstance(entry[0], str):
        return False
    return entry[0] in ARGUMENTS and len(entry) - 1 == ARGUMENTS[entry[0]]


def check_operations(operations):
    """Raise InvalidOperation if a value is not a list of operations of the right form."""
    if not isinstance(operations, list):
        raise InvalidOperation(0)
    for place, operation in enumerate(operations):
        if not is_operation(operation):
            raise InvalidOperation(place)


def format_session(net, operations):
    """Return the text of a session; raise InvalidOperation."""
    Office.replay(net, operations)
    lines = [net.text, "changes"]
    for operation in operations:
        lines.append(format_operation(operation))
    return "\n".join(lines)


def parse_session(text):
    """Return the text of the net and the list of operations of a session; raise TextFault, InvalidNet or others."""
    if not isinstance(text, str):
        raise TextFault(0)
    lines = text.split("\n")
    if "changes" not in lines:
        raise TextFault(len(lines))
    start = lines.index("changes") + 1
    net = Net.parse("\n".join(lines[:start - 1]))
    operations = read_operations(lines, start)
    Office.replay(net, operations)
    return net.text, operations


def format_operation(operation):
    """Return the line of an operation that can be executed."""
    word, *numbers = operation
    if word == "add":
        numbers = operation[1]
    return " ".join([word] + [str(number) for number in numbers])


def read_operations(lines, start):
    """Return the operations of all lines from a start on, a list; raise TextFault."""
    operations = []
    for at, line in enumerate(lines[start:], start=start):
        operation = read_operation(line)
        if operation is None:
            raise TextFault(at)
        operations.append(operation)
    return operations


def read_operation(line):
    """Return the operation of a line, a tuple, or None if the line is invalid."""
    word = line.split(" ")[0]
    if word not in NUMBERS:
        return None
    numbers = read_line(line, word, NUMBERS[word])
    if numbers is None:
        return None
    if word == "add":
        return word, numbers
    return (word,) + numbers
