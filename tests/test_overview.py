"""What the overview says of all functions (point 1), and the interface."""

import ast
import inspect
import pathlib
import unittest

import chasepost
import naive
import offices
from chasepost import chases, comparison, encoding, office, planning, posting
from chasepost.chases import count_hops, day_sets, destination, loops, slowest, where
from chasepost.comparison import first_difference, simplify
from chasepost.encoding import decode, encode
from chasepost.errors import PostError
from chasepost.nets import Net
from chasepost.office import Office, format_session, parse_session
from chasepost.planning import harmful_orders, plan_days
from chasepost.posting import count_deliveries, last_posting, senders
from chasepost.watching import Watcher

FUNCTIONS = {
    chases: {
        "destination": ["net", "house", "day"],
        "day_sets": ["net", "house"],
        "slowest": ["net"],
        "where": ["net", "house", "day", "later"],
        "count_hops": ["net", "house", "day", "later"],
        "loops": ["net"],
    },
    posting: {
        "last_posting": ["net", "house", "goal", "day"],
        "senders": ["net", "goal", "day"],
        "count_deliveries": ["net", "house", "goal", "first", "last"],
    },
    planning: {
        "plan_days": ["net", "limit"],
        "harmful_orders": ["net"],
    },
    comparison: {
        "first_difference": ["net", "other"],
        "simplify": ["net"],
    },
    encoding: {
        "encode": ["net"],
        "decode": ["code"],
    },
    office: {
        "format_session": ["net", "operations"],
        "parse_session": ["text"],
    },
}
METHODS = {
    Net: {
        "__init__": ["self", "period", "houses", "orders"],
        "order_at": ["self", "house", "day"],
        "route": ["self", "house", "day", "limit"],
    },
    Watcher: {
        "__init__": ["self", "net", "index"],
        "see": ["self", "house", "day", "result"],
        "see_all": ["self", "letters"],
        "results": ["self", "house", "day"],
        "best_letter": ["self", "first"],
    },
    Office: {
        "__init__": ["self", "net"],
        "add": ["self", "order"],
        "cancel": ["self", "index"],
        "prolong": ["self", "index", "days"],
        "raise_order": ["self", "index"],
        "undo": ["self"],
        "redo": ["self"],
        "save": ["self", "name"],
        "restore": ["self", "name"],
        "batch": ["self", "operations"],
    },
}
CLASS_METHODS = {Net: {"parse": ["text"]}, Office: {"replay": ["net", "operations"]}}
PROPERTIES = {
    Net: ("text", "idle_orders"), Watcher: ("candidates", "history"), Office: ("present_orders", "operations"),
}
MODULES = {Net: "chasepost.nets", Watcher: "chasepost.watching", Office: "chasepost.office"}


def parameters(function):
    return list(inspect.signature(function).parameters)


def all_results(net):
    """Return what all functions return for a net."""
    found = [net.period, net.houses, net.orders, net.idle_orders, net.text, slowest(net), loops(net)]
    found += [plan_days(net, 1), harmful_orders(net), first_difference(net, naive.circle()), simplify(net).orders]
    found += [encode(net), decode(encode(net)).orders, format_session(net, [("undo",)])]
    found += [parse_session(net.text + "\nchanges"), offices.whole_state(Office.replay(net, [("redo",)]))]
    for index in range(min(len(net.orders), 2)):
        watcher = Watcher(net, index)
        found += [watcher.candidates, watcher.history, watcher.results(0, 1), watcher.best_letter(2)]
    for house in range(net.houses):
        found.append(day_sets(net, house))
        found += [last_posting(net, house, 0, 50), senders(net, house, 50), count_deliveries(net, house, 0, 1, 50)]
        for day in range(net.period):
            found.append([net.order_at(house, day), list(net.route(house, day, 5)), destination(net, house, day)])
            found.append([where(net, house, day, 9), count_hops(net, house, day, 9)])
    return found


class Interface(unittest.TestCase):
    def test_functions(self):
        for module, functions in FUNCTIONS.items():
            for name, names in functions.items():
                function = getattr(module, name)
                self.assertEqual((parameters(function), function.__module__), (names, module.__name__))

    def test_methods(self):
        for owner, methods in METHODS.items():
            self.assertEqual(owner.__module__, MODULES[owner])
            for name, names in methods.items():
                self.assertEqual(parameters(vars(owner)[name]), names)

    def test_class_methods(self):
        for owner, methods in CLASS_METHODS.items():
            for name, names in methods.items():
                self.assertIsInstance(vars(owner)[name], classmethod)
                self.assertEqual(parameters(getattr(owner, name)), names)

    def test_properties(self):
        for owner, names in PROPERTIES.items():
            for name in names:
                self.assertIsInstance(vars(owner)[name], property)

    def test_arguments_by_name(self):
        net = naive.example()
        self.assertEqual(list(net.route(house=0, day=1, limit=1)), [(0, 1)])
        self.assertEqual(net.order_at(house=0, day=1), 0)
        self.assertEqual(Net.parse(text="net 1 1").period, 1)
        self.assertEqual(where(net=net, house=0, day=1, later=4), ("house", 0))
        self.assertEqual(count_hops(net=net, house=0, day=1, later=4), 3)
        self.assertEqual(destination(net=net, house=0, day=1), (0, 7))
        self.assertEqual(last_posting(net=net, house=1, goal=2, day=10), 4)
        self.assertEqual(senders(net=net, goal=2, day=3), [(1, 0), (2, 3)])
        self.assertEqual(count_deliveries(net=net, house=1, goal=2, first=0, last=9), 3)
        self.assertEqual(plan_days(net=net, limit=0), ())
        self.assertIsNone(first_difference(net=net, other=simplify(net=net)))
        self.assertEqual(decode(code=encode(net=net)).orders, net.orders)

    def test_arguments_of_watchers_by_name(self):
        watcher = Watcher(net=naive.example(), index=2)
        self.assertEqual(watcher.see(house=1, day=0, result=(0, 7)), 3)
        self.assertEqual(watcher.results(house=2, day=0), [(2, 0)])
        self.assertEqual(watcher.best_letter(first=1), (0, 1))

    def test_arguments_of_offices_by_name(self):
        net = naive.example()
        one = Office(net=net)
        one.save(name="x")
        self.assertEqual([one.add(order=offices.GOOD), one.cancel(index=3)], [3, offices.GOOD])
        self.assertEqual([one.prolong(index=0, days=4), one.raise_order(index=0)], [2, None])
        self.assertEqual(one.batch(operations=[("undo",)]), [True])
        one.restore(name="x")
        self.assertEqual(Office.replay(net=net, operations=[]).operations, one.operations)
        self.assertEqual(parse_session(text=format_session(net=net, operations=[])), (net.text, []))


class Overview(unittest.TestCase):
    def test_repeated_calls_return_the_same(self):
        for net in naive.random_nets(30):
            first = all_results(net)
            self.assertEqual(all_results(net), first)
            self.assertEqual(all_results(Net(net.period, net.houses, net.orders)), first)

    def test_calls_that_fail_change_nothing(self):
        net = naive.example()
        before = all_results(net)
        for house, day in ((3, 0), (-1, 0), (0, -1), (None, None), (0, "x")):
            for function in (destination, lambda net, house, day: next(net.route(house, day, 1))):
                with self.assertRaises(PostError):
                    function(net, house, day)
            with self.assertRaises(PostError):
                where(net, house, day, 0)
            for function in (senders, lambda net, house, day: last_posting(net, 0, house, day)):
                with self.assertRaises(PostError):
                    function(net, house, day)
            with self.assertRaises(PostError):
                count_deliveries(net, 0, house, day, 9)
        with self.assertRaises(PostError):
            plan_days(net, 4)
        with self.assertRaises(PostError):
            first_difference(Net(17, 3, ()), Net(30, 3, ()))
        with self.assertRaises(PostError):
            Watcher(net, 3)
        with self.assertRaises(PostError):
            Watcher(net, 2).see_all((1, 0, (0, 7)), (1, 0, (2, 3)))
        with self.assertRaises(PostError):
            Office(net).batch([("cancel", 0), ("cancel", 2)])
        for function in (Office.replay, format_session):
            with self.assertRaises(PostError):
                function(net, [("cancel", 0), ("cancel", 2)])
        self.assertEqual(all_results(net), before)

    def test_one_net_for_several_watchers_and_offices(self):
        net = naive.example()
        before = all_results(net)
        watcher, one, other = Watcher(net, 2), Office(net), Office(net)
        one.batch([("prolong", 2, 4), ("cancel", 0), ("add", offices.GOOD)])
        one.save("x")
        watcher.see(1, 0, (2, 3))
        self.assertEqual(all_results(net), before)
        self.assertEqual(offices.whole_state(other), offices.whole_state(Office(naive.example())))
        # The office changes the hidden order, but not that of the watcher's net.
        self.assertEqual(watcher.candidates, [(2, 3)])
        self.assertEqual((watcher.results(1, 0), watcher.results(1, 1)), ([(2, 3)], [(0, 3)]))
        self.assertEqual(len(Watcher(net, 2).candidates), 18)

    def test_an_office_made_of_the_orders_of_another(self):
        one = Office(naive.example())
        one.cancel(0)
        net = Net(4, 3, one.present_orders)
        one.cancel(0)
        self.assertEqual(Office(net).present_orders, naive.EXAMPLE[2][1:])
        self.assertEqual(one.present_orders, naive.EXAMPLE[2][2:])

    def test_two_routes_at_once(self):
        net = naive.example()
        pairs = list(zip(net.route(0, 1, 3), net.route(1, 2, 3)))
        self.assertEqual(pairs, [((0, 1), (1, 2)), ((1, 2), (0, 4)), ((0, 4), (1, 5))])

    def test_arguments_are_not_modified(self):
        orders = [[0, 1, 0, 1, 1]]
        for wrong in (orders, (orders[0],)):
            with self.assertRaises(PostError):
                Net(2, 2, wrong)
        self.assertEqual(orders, [[0, 1, 0, 1, 1]])

    def test_nothing_outside_the_package_is_imported(self):
        for path in pathlib.Path(chasepost.__file__).parent.glob("*.py"):
            for node in ast.walk(ast.parse(path.read_text())):
                self.assertNotIsInstance(node, ast.Import)
                if isinstance(node, ast.ImportFrom):
                    self.assertTrue(node.module.startswith("chasepost."), path)
