"""What holds for every answer of known, over many nets and all their orders."""

import itertools
import unittest

from swallower.orders import known
from tests.helper import (
    LARGE_NETS, LARGEST, all_short_lists, expected, is_told_net, orders_of, small_nets_with_homes,
)


class AllOrders(unittest.TestCase):
    def check(self, n, home, net):
        for order in orders_of(n, home):
            with self.subTest(n=n, home=home, net=net, order=order):
                answer = known(n, home, net, order)
                self.assertEqual(answer, expected(net, home, order))
                self.check_what_holds(answer, n)

    def check_what_holds(self, answer, n):
        self.assertTrue(all(type(number) is int for number in answer))
        if answer == [-33]:
            return
        self.assertEqual(answer[0], n - 1)
        behind = answer[1:]
        self.assertEqual(len(behind), n - 1)
        self.assertEqual(behind, sorted(behind))
        self.assertEqual(behind[-1:], behind[-2:-1] or [0] * len(behind[-1:]))
        looked_into = [0] + behind[:-1]
        self.assertTrue(all(late - soon >= 2 for soon, late in zip(looked_into, looked_into[1:])))

    def test_small_nets(self):
        for n, home, net in small_nets_with_homes():
            self.check(n, home, net)

    def test_larger_nets(self):
        for n, net in LARGE_NETS:
            self.check(n, n // 2, net)

    def test_an_order_that_can_be_followed_always_is_there(self):
        for n, net in LARGE_NETS:
            for home in range(n):
                answers = [known(n, home, net, order) for order in orders_of(n, home)]
                self.assertTrue(any(answer[0] == n - 1 for answer in answers))


class AllLists(unittest.TestCase):
    def test_every_short_net_is_taken_or_refused_as_told(self):
        for n, net in all_short_lists():
            with self.subTest(n=n, net=net):
                # With a home that isn't there, -2 says that the net is one.
                self.assertEqual(known(n, LARGEST, net, []), [-2] if is_told_net(n, net) else [-22])

    def test_every_short_order_is_taken_or_refused_as_told(self):
        net = [0, 1, 1, 2, 2, 0]
        for length in range(4):
            for order in itertools.product((0, 1, 2, 3, LARGEST), repeat=length):
                with self.subTest(order=order):
                    taken = order in ((0, 2), (2, 0))
                    self.assertEqual(known(3, 1, net, list(order)), [2, 2, 2] if taken else [-22])


if __name__ == "__main__":
    unittest.main()
