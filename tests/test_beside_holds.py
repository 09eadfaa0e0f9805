"""What holds for every answer of beside, over many nets and all lists of their places."""

import itertools
import unittest

from swallower.orders import beside
from tests.helper import LARGE_NETS, LARGEST, all_short_lists, is_told_net, nets_of, pairs

SOME_NETS = LARGE_NETS + [
    (5, [0, 1, 1, 2, 2, 3, 3, 4]),
    (5, [4, 0, 4, 1, 4, 2, 2, 3]),
    (5, [0, 2, 0, 3, 0, 4, 1, 2, 1, 3, 1, 4]),
]


def lists_of(n, home, longest):
    """Every list of at most so many places but home, also those that tell one more than once."""
    places = [place for place in range(n) if place != home]
    for length in range(longest + 1):
        for told in itertools.product(places, repeat=length):
            yield list(told)


class AllOrders(unittest.TestCase):
    def check(self, n, home, net, order):
        with self.subTest(n=n, home=home, net=net, order=order):
            answer = beside(n, home, net, order)
            others = answer[1:]
            self.assertEqual(answer[0], len(others))
            self.assertTrue(all(soon < late for soon, late in zip(others, others[1:])))
            told = {home, *order}
            self.assertTrue(told.isdisjoint(others))
            reached = {place for link in pairs(net) for place in link if link & told}
            self.assertEqual(set(others), reached - told)

    def test_every_net_of_up_to_four_places(self):
        for n in range(1, 5):
            for net in nets_of(n):
                for home in range(n):
                    for order in lists_of(n, home, n - 1):
                        self.check(n, home, net, order)

    def test_some_nets_of_five_to_seven_places(self):
        for n, net in SOME_NETS:
            for home in range(n):
                for order in lists_of(n, home, 2):
                    self.check(n, home, net, order)

    def test_some_nets_of_five_to_seven_places_with_longer_orders(self):
        for n, net in SOME_NETS:
            places = [place for place in range(n) if place != n // 2]
            for length in range(3, n):
                for order in itertools.combinations(places, length):
                    self.check(n, n // 2, net, list(reversed(order)))


class AllLists(unittest.TestCase):
    def test_every_short_net_is_taken_or_refused_as_told(self):
        for n, net in all_short_lists():
            with self.subTest(n=n, net=net):
                # With a home that isn't there, -2 says that the net is one.
                self.assertEqual(beside(n, LARGEST, net, []), [-2] if is_told_net(n, net) else [-22])

    def test_every_short_order_is_taken_or_refused_as_told(self):
        for length in range(5):
            for order in itertools.product((0, 1, 2, 3, LARGEST), repeat=length):
                with self.subTest(order=order):
                    refused = length > 2 or not set(order) <= {0, 2}
                    self.assertEqual(beside(3, 1, [0, 1, 1, 2], list(order)) == [-22], refused)


if __name__ == "__main__":
    unittest.main()
