"""No order is better than the one that is answered, and of like ones it is the first (what holds, a)."""

import unittest

from swallower.orders import homes, known, mean, soonest
from tests.helper import NETS_OF_FIVE, NETS_OF_SIX, expected, nets_of, orders_of, small_nets_with_homes


def at_worst(behind):
    return max(behind, default=0)


def reckoned(n, home, net):
    """Each order that can be followed, with the steps behind which its places are known."""
    told = [(order, expected(net, home, order)) for order in orders_of(n, home)]
    return [(order, answer[1:]) for order, answer in told if answer != [-33]]


class NoOrderIsBetter(unittest.TestCase):
    def check(self, n, home, net):
        with self.subTest(n=n, home=home, net=net):
            ways = reckoned(n, home, net)
            for call, steps_of in ((soonest, at_worst), (mean, sum)):
                answer = call(n, home, net)
                self.check_answer(answer, ways, steps_of)
                self.check_against_known(answer, n, home, net, steps_of)

    def check_answer(self, answer, ways, steps_of):
        self.assertEqual(answer[0], min(steps_of(behind) for order, behind in ways))
        self.assertEqual(answer[1:], min(order for order, behind in ways if steps_of(behind) == answer[0]))

    def check_against_known(self, answer, n, home, net, steps_of):
        told = known(n, home, net, answer[1:])
        self.assertEqual(told[0], n - 1)
        self.assertEqual(steps_of(told[1:]), answer[0])

    def test_small_nets(self):
        for n, home, net in small_nets_with_homes():
            self.check(n, home, net)

    def test_some_nets_of_six_places_from_every_home(self):
        for net in NETS_OF_SIX:
            for home in range(6):
                self.check(6, home, net)


class NoHomeHasABetterOrder(unittest.TestCase):
    def check(self, n, net):
        with self.subTest(n=n, net=net):
            best = [min(at_worst(behind) for order, behind in reckoned(n, home, net)) for home in range(n)]
            self.assertEqual(homes(n, net), [n] + best)

    def check_against_known(self, n, net):
        """By known, as it tells each order by itself."""
        answer = homes(n, net)
        for home in range(n):
            told = [known(n, home, net, order) for order in orders_of(n, home)]
            worst = [at_worst(behind[1:]) for behind in told if behind != [-33]]
            with self.subTest(n=n, net=net, home=home):
                self.assertTrue(all(answer[home + 1] <= steps for steps in worst))
                self.assertIn(answer[home + 1], worst)

    def test_every_net_of_up_to_four_places(self):
        for n in range(1, 5):
            for net in nets_of(n):
                self.check(n, net)
                self.check_against_known(n, net)

    def test_some_nets_of_five_places(self):
        for net in NETS_OF_FIVE:
            self.check(5, net)
            self.check_against_known(5, net)

    def test_some_nets_of_six_places(self):
        for net in NETS_OF_SIX:
            self.check(6, net)
            self.check_against_known(6, net)


if __name__ == "__main__":
    unittest.main()
