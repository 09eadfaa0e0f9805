"""What beside refuses, and which of several refusals it answers (promise 1)."""

import unittest

from swallower.orders import beside
from tests.helper import ALL_LINKS_OF_5, LARGEST, LINE_OF_4, LINE_OF_6, LINE_OF_7, NOT_NETS


class NoNet(unittest.TestCase):
    def check_each_fault(self, home, order):
        for fault, cases in NOT_NETS.items():
            for n, net in cases:
                with self.subTest(fault=fault, n=n, net=net):
                    self.assertEqual(beside(n, home, net, order), [-22])

    def test_by_itself(self):
        self.check_each_fault(0, [])

    def test_ahead_of_home(self):
        self.check_each_fault(8, [])
        self.check_each_fault(LARGEST, [])

    def test_with_an_order_that_is_refused_too(self):
        self.check_each_fault(0, [0])
        self.check_each_fault(0, [LARGEST])
        self.check_each_fault(0, [1] * 8)

    def test_ahead_of_home_and_order(self):
        self.check_each_fault(8, [8])
        self.check_each_fault(LARGEST, [LARGEST] * 8)

    def test_one_to_seven_places_are_taken(self):
        for n in range(1, 8):
            self.assertEqual(beside(n, 0, LINE_OF_7[:2 * n - 2], []), [1, 1] if n > 1 else [0])

    def test_ten_links_are_taken(self):
        self.assertEqual(beside(5, 0, ALL_LINKS_OF_5, []), [4, 1, 2, 3, 4])
        self.assertEqual(beside(7, 5, ALL_LINKS_OF_5[:-4] + [0, 5, 0, 6], [0]), [5, 1, 2, 3, 4, 6])


class Home(unittest.TestCase):
    def test_the_last_place_is_one(self):
        self.assertEqual(beside(1, 0, [], []), [0])
        self.assertEqual(beside(4, 3, LINE_OF_4, []), [1, 2])
        self.assertEqual(beside(7, 6, LINE_OF_7, []), [1, 5])

    def test_no_place(self):
        self.assertEqual(beside(1, 1, [], []), [-2])
        self.assertEqual(beside(4, 4, LINE_OF_4, []), [-2])
        self.assertEqual(beside(4, 5, LINE_OF_4, [1, 2]), [-2])
        self.assertEqual(beside(7, 7, LINE_OF_7, []), [-2])
        self.assertEqual(beside(1, LARGEST, [], []), [-2])
        self.assertEqual(beside(7, LARGEST, LINE_OF_7, [1, 2, 3]), [-2])

    def test_ahead_of_an_order_that_is_refused_too(self):
        self.assertEqual(beside(4, 4, LINE_OF_4, [0, 1, 2, 3]), [-2])
        self.assertEqual(beside(4, 4, LINE_OF_4, [1] * 8), [-2])
        self.assertEqual(beside(4, 4, LINE_OF_4, [4]), [-2])
        self.assertEqual(beside(4, 4, LINE_OF_4, [5]), [-2])
        self.assertEqual(beside(1, 1, [], [0]), [-2])
        self.assertEqual(beside(7, LARGEST, LINE_OF_7, [LARGEST]), [-2])
        self.assertEqual(beside(7, LARGEST, LINE_OF_7, [LARGEST] * 8), [-2])


class Order(unittest.TestCase):
    def test_one_place_less_than_n_is_taken(self):
        self.assertEqual(beside(4, 0, LINE_OF_4, [1, 1, 1]), [1, 2])
        self.assertEqual(beside(7, 0, LINE_OF_7, [1, 1, 1, 1, 1, 1]), [1, 2])
        self.assertEqual(beside(7, 0, LINE_OF_7, [1, 2, 3, 4, 5, 6]), [0])

    def test_n_places(self):
        self.assertEqual(beside(2, 0, [0, 1], [1, 1]), [-22])
        self.assertEqual(beside(4, 0, LINE_OF_4, [1, 2, 3, 1]), [-22])
        self.assertEqual(beside(4, 0, LINE_OF_4, [1, 1, 1, 1]), [-22])
        self.assertEqual(beside(6, 0, LINE_OF_6, [1, 2, 3, 4, 5, 5]), [-22])
        self.assertEqual(beside(7, 0, LINE_OF_7, [1, 2, 3, 4, 5, 6, 6]), [-22])

    def test_more_than_n_places(self):
        self.assertEqual(beside(2, 0, [0, 1], [1, 1, 1]), [-22])
        self.assertEqual(beside(4, 0, LINE_OF_4, [1, 2, 3, 2, 1]), [-22])
        self.assertEqual(beside(6, 5, LINE_OF_6, [4, 3, 2, 1, 0, 0, 4]), [-22])

    def test_eight_places(self):
        self.assertEqual(beside(4, 0, LINE_OF_4, [1, 2, 3, 1, 2, 3, 1, 2]), [-22])
        self.assertEqual(beside(7, 0, LINE_OF_7, [1, 2, 3, 4, 5, 6, 1, 2]), [-22])
        self.assertEqual(beside(7, 3, LINE_OF_7, [2] * 8), [-22])

    def test_home_among_them(self):
        self.assertEqual(beside(4, 0, LINE_OF_4, [0]), [-22])
        self.assertEqual(beside(4, 0, LINE_OF_4, [1, 0]), [-22])
        self.assertEqual(beside(4, 2, LINE_OF_4, [2, 1, 3]), [-22])
        self.assertEqual(beside(4, 2, LINE_OF_4, [1, 2, 3]), [-22])
        self.assertEqual(beside(2, 1, [0, 1], [1]), [-22])
        self.assertEqual(beside(7, 6, LINE_OF_7, [1, 2, 3, 4, 5, 6]), [-22])

    def test_one_that_there_is_not(self):
        self.assertEqual(beside(4, 0, LINE_OF_4, [4]), [-22])
        self.assertEqual(beside(4, 0, LINE_OF_4, [1, 4]), [-22])
        self.assertEqual(beside(4, 0, LINE_OF_4, [4, 1]), [-22])
        self.assertEqual(beside(4, 0, LINE_OF_4, [1, 5, 2]), [-22])
        self.assertEqual(beside(4, 0, LINE_OF_4, [LARGEST]), [-22])
        self.assertEqual(beside(4, 0, LINE_OF_4, [1, 2, LARGEST]), [-22])
        self.assertEqual(beside(7, 0, LINE_OF_7, [7]), [-22])
        self.assertEqual(beside(7, 0, LINE_OF_7, [8, 1]), [-22])
        self.assertEqual(beside(7, 0, LINE_OF_7, [1, LARGEST, LARGEST - 1]), [-22])

    def test_of_one_place_any_order_but_none(self):
        self.assertEqual(beside(1, 0, [], [0]), [-22])
        self.assertEqual(beside(1, 0, [], [1]), [-22])
        self.assertEqual(beside(1, 0, [], [LARGEST]), [-22])

    def test_several_faults(self):
        self.assertEqual(beside(4, 0, LINE_OF_4, [0, 4]), [-22])
        self.assertEqual(beside(4, 0, LINE_OF_4, [0, 1, 2, 3]), [-22])
        self.assertEqual(beside(4, 0, LINE_OF_4, [1, 2, 3, 4]), [-22])
        self.assertEqual(beside(7, 0, LINE_OF_7, [0, 1, 2, 3, 4, 5, 6, 7]), [-22])
        self.assertEqual(beside(7, 0, LINE_OF_7, [LARGEST] * 8), [-22])


if __name__ == "__main__":
    unittest.main()
