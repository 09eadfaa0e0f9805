"""What homes refuses, and which of several refusals it answers (promise 1)."""

import unittest

from swallower.orders import homes
from tests.helper import (
    ALL_LINKS_OF_5, LARGEST, LINE_OF_6, LINE_OF_7, NOT_NETS, RING_OF_7, all_short_lists, is_told_net,
)


class NoNet(unittest.TestCase):
    def test_each_fault(self):
        for fault, cases in NOT_NETS.items():
            for n, net in cases:
                with self.subTest(fault=fault, n=n, net=net):
                    self.assertEqual(homes(n, net), [-22])

    def test_one_to_six_places_are_taken(self):
        for n in range(1, 7):
            self.assertEqual(homes(n, LINE_OF_6[:2 * n - 2])[0], n)

    def test_ten_links_are_taken(self):
        self.assertEqual(homes(5, ALL_LINKS_OF_5)[0], 5)
        self.assertEqual(homes(6, ALL_LINKS_OF_5[:-2] + [0, 5])[0], 6)


class MoreThanSixPlaces(unittest.TestCase):
    def test_seven_are_too_many_to_choose_from(self):
        self.assertEqual(homes(7, LINE_OF_7), [-75])
        self.assertEqual(homes(7, RING_OF_7), [-75])
        self.assertEqual(homes(7, [0, 6, 1, 6, 2, 6, 3, 6, 4, 6, 5, 6]), [-75])
        self.assertEqual(homes(7, ALL_LINKS_OF_5[:-4] + [0, 5, 0, 6]), [-75])

    def test_seven_that_are_no_net(self):
        self.assertEqual(homes(7, []), [-22])
        self.assertEqual(homes(7, LINE_OF_6), [-22])
        self.assertEqual(homes(7, LINE_OF_7 + [0]), [-22])
        self.assertEqual(homes(7, LINE_OF_7 + [0, 7]), [-22])
        self.assertEqual(homes(7, LINE_OF_7 + [0, LARGEST]), [-22])
        self.assertEqual(homes(7, LINE_OF_7 + [LARGEST]), [-22])
        self.assertEqual(homes(7, LINE_OF_7 + [6, 6]), [-22])
        self.assertEqual(homes(7, LINE_OF_7 + [0, 1]), [-22])
        self.assertEqual(homes(7, LINE_OF_7 + [1, 0]), [-22])
        self.assertEqual(homes(7, ALL_LINKS_OF_5 + [0, 5, 0, 6]), [-22])
        self.assertEqual(homes(7, [LARGEST] * 24), [-22])

    def test_more_than_seven_are_no_net(self):
        self.assertEqual(homes(8, LINE_OF_7 + [6, 7]), [-22])
        self.assertEqual(homes(8, LINE_OF_7), [-22])
        self.assertEqual(homes(LARGEST, LINE_OF_7), [-22])
        self.assertEqual(homes(LARGEST, [LARGEST] * 24), [-22])


class AllLists(unittest.TestCase):
    def test_every_short_net_is_taken_or_refused_as_told(self):
        for n, net in all_short_lists():
            with self.subTest(n=n, net=net):
                answer = homes(n, net)
                self.assertEqual(answer[0], n if is_told_net(n, net) else -22)
                self.assertEqual(len(answer), n + 1 if answer[0] == n else 1)


if __name__ == "__main__":
    unittest.main()
