"""What is promised over the whole program: the interface, and what holds between the calls (a, b and c)."""

import inspect
import pathlib
import subprocess
import sys
import unittest

from swallower import orders
from swallower.orders import beside, homes, known, mean, soonest
from tests.helper import LARGE_NETS, NETS_OF_FIVE, NETS_OF_SIX, looks, nets_of, orders_of

INTERFACE = {
    "known": ["n", "home", "net", "order"],
    "soonest": ["n", "home", "net"],
    "mean": ["n", "home", "net"],
    "homes": ["n", "net"],
    "beside": ["n", "home", "net", "order"],
}
TOP = pathlib.Path(__file__).resolve().parent.parent
SMALL_NETS = [(n, net) for n in range(1, 5) for net in nets_of(n)]
SOME_NETS = SMALL_NETS + [(5, net) for net in NETS_OF_FIVE] + [(6, net) for net in NETS_OF_SIX]
WITH_EVERY_HOME = [(n, home, net) for n, net in SOME_NETS for home in range(n)]


class Interface(unittest.TestCase):
    def test_each_call_is_a_function_of_the_arguments_told(self):
        for name, arguments in INTERFACE.items():
            with self.subTest(name=name):
                call = getattr(orders, name)
                self.assertTrue(inspect.isfunction(call))
                self.assertEqual(call.__name__, name)
                self.assertEqual(call.__module__, "swallower.orders")
                told = inspect.signature(call).parameters.values()
                self.assertEqual([argument.name for argument in told], arguments)
                self.assertTrue(all(argument.default is argument.empty for argument in told))

    def test_nothing_is_imported_but_the_package_itself(self):
        script = ("import sys; before = set(sys.modules); import swallower.orders; "
                  "print(sorted(set(sys.modules) - before))")
        done = subprocess.run([sys.executable, "-c", script], cwd=TOP, capture_output=True, text=True, check=True)
        self.assertEqual(done.stdout, "['swallower', 'swallower.nets', 'swallower.orders']\n")
        self.assertEqual(done.stderr, "")


class BetweenTheCalls(unittest.TestCase):
    def test_known_tells_what_soonest_mean_and_homes_tell(self):
        for n, home, net in WITH_EVERY_HOME:
            at_worst = soonest(n, home, net)
            together = mean(n, home, net)
            with self.subTest(n=n, home=home, net=net):
                self.assertEqual(max(known(n, home, net, at_worst[1:])[1:], default=0), at_worst[0])
                self.assertEqual(sum(known(n, home, net, together[1:])[1:]), together[0])
                self.assertEqual(homes(n, net)[home + 1], at_worst[0])

    def test_no_order_tells_it_sooner_at_worst_or_on_the_mean(self):
        for n, home, net in WITH_EVERY_HOME:
            told = [known(n, home, net, order) for order in orders_of(n, home)]
            behind = [answer[1:] for answer in told if answer != [-33]]
            with self.subTest(n=n, home=home, net=net):
                self.assertEqual(min(max(steps, default=0) for steps in behind), soonest(n, home, net)[0])
                self.assertEqual(min(sum(steps) for steps in behind), mean(n, home, net)[0])


class ChosenOrders(unittest.TestCase):
    def each_chosen_order(self):
        """n, home, net, and the order that soonest or mean tells."""
        return [(n, home, net, call(n, home, net)[1:]) for n, home, net in WITH_EVERY_HOME for call in (soonest, mean)]

    def test_later_places_are_known_no_sooner_and_the_last_two_at_once(self):
        for n, home, net, order in self.each_chosen_order():
            behind = known(n, home, net, order)[1:]
            with self.subTest(n=n, home=home, net=net, order=order):
                self.assertEqual(behind, sorted(behind))
                self.assertEqual(len(set(behind[-2:])), min(1, len(behind)))

    def test_each_look_takes_two_steps_and_a_way_through_safe_places(self):
        for n, home, net, order in self.each_chosen_order():
            behind = [0] + known(n, home, net, order)[1:-1]
            ways = [late - soon - 2 for soon, late in zip(behind, behind[1:])]
            with self.subTest(n=n, home=home, net=net, order=order):
                self.assertEqual(ways, [far for far, spot in looks(net, home, order)])


class BesideAndKnown(unittest.TestCase):
    def check(self, n, home, net):
        for order in orders_of(n, home):
            ahead = [order[:count] for count in range(len(order) - 1)]
            followed = all(order[len(told)] in beside(n, home, net, told)[1:] for told in ahead)
            with self.subTest(n=n, home=home, net=net, order=order):
                self.assertEqual(known(n, home, net, order) != [-33], followed)

    def test_what_can_be_looked_into_next_is_what_beside_tells(self):
        for n, net in SMALL_NETS:
            for home in range(n):
                self.check(n, home, net)
        for n, net in LARGE_NETS:
            self.check(n, 0, net)


if __name__ == "__main__":
    unittest.main()
