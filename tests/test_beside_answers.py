"""What beside answers where nothing is refused (promise 2, its second sentence)."""

import unittest

from swallower.orders import beside
from tests.helper import (
    ALL_LINKS_OF_3, ALL_LINKS_OF_4, ALL_LINKS_OF_5, LARGE_NETS, LINE_OF_3, LINE_OF_4, LINE_OF_5, LINE_OF_6,
    LINE_OF_7, RING_OF_4, RING_OF_5, RING_OF_6, RING_OF_7, STAR_OF_4_ROUND_3, STAR_OF_6,
)


class OneAndTwoPlaces(unittest.TestCase):
    def test_one_place_is_beside_none(self):
        self.assertEqual(beside(1, 0, [], []), [0])

    def test_two_places(self):
        self.assertEqual(beside(2, 0, [0, 1], []), [1, 1])
        self.assertEqual(beside(2, 1, [0, 1], []), [1, 0])
        self.assertEqual(beside(2, 1, [1, 0], []), [1, 0])
        self.assertEqual(beside(2, 0, [0, 1], [1]), [0])
        self.assertEqual(beside(2, 1, [0, 1], [0]), [0])


class NoOrderAtAll(unittest.TestCase):
    def test_lines_from_an_end(self):
        self.assertEqual(beside(3, 0, LINE_OF_3, []), [1, 1])
        self.assertEqual(beside(3, 2, LINE_OF_3, []), [1, 1])
        self.assertEqual(beside(5, 4, LINE_OF_5, []), [1, 3])
        self.assertEqual(beside(7, 0, LINE_OF_7, []), [1, 1])
        self.assertEqual(beside(7, 6, LINE_OF_7, []), [1, 5])

    def test_lines_from_their_midst(self):
        self.assertEqual(beside(3, 1, LINE_OF_3, []), [2, 0, 2])
        self.assertEqual(beside(5, 2, LINE_OF_5, []), [2, 1, 3])
        self.assertEqual(beside(7, 3, LINE_OF_7, []), [2, 2, 4])

    def test_rings(self):
        self.assertEqual(beside(3, 1, ALL_LINKS_OF_3, []), [2, 0, 2])
        self.assertEqual(beside(4, 0, RING_OF_4, []), [2, 1, 3])
        self.assertEqual(beside(6, 5, RING_OF_6, []), [2, 0, 4])
        self.assertEqual(beside(7, 6, RING_OF_7, []), [2, 0, 5])

    def test_stars(self):
        self.assertEqual(beside(4, 3, STAR_OF_4_ROUND_3, []), [3, 0, 1, 2])
        self.assertEqual(beside(4, 1, STAR_OF_4_ROUND_3, []), [1, 3])
        self.assertEqual(beside(6, 0, STAR_OF_6, []), [5, 1, 2, 3, 4, 5])

    def test_each_place_beside_each_other(self):
        self.assertEqual(beside(4, 2, ALL_LINKS_OF_4, []), [3, 0, 1, 3])
        self.assertEqual(beside(5, 3, ALL_LINKS_OF_5, []), [4, 0, 1, 2, 4])

    def test_seven_places_and_ten_links(self):
        net = LARGE_NETS[-1][1]
        self.assertEqual(beside(7, 0, net, []), [3, 1, 3, 6])
        self.assertEqual(beside(7, 4, net, []), [2, 3, 5])


class OnePlaceTold(unittest.TestCase):
    def test_beside_home(self):
        self.assertEqual(beside(3, 0, LINE_OF_3, [1]), [1, 2])
        self.assertEqual(beside(4, 1, LINE_OF_4, [2]), [2, 0, 3])
        self.assertEqual(beside(5, 2, LINE_OF_5, [1]), [2, 0, 3])
        self.assertEqual(beside(6, 0, RING_OF_6, [1]), [2, 2, 5])
        self.assertEqual(beside(6, 3, STAR_OF_6, [0]), [4, 1, 2, 4, 5])
        self.assertEqual(beside(5, 3, ALL_LINKS_OF_5, [1]), [3, 0, 2, 4])

    def test_not_beside_home(self):
        self.assertEqual(beside(3, 0, LINE_OF_3, [2]), [1, 1])
        self.assertEqual(beside(5, 0, LINE_OF_5, [2]), [2, 1, 3])
        self.assertEqual(beside(5, 0, LINE_OF_5, [3]), [3, 1, 2, 4])
        self.assertEqual(beside(5, 0, LINE_OF_5, [4]), [2, 1, 3])
        self.assertEqual(beside(6, 0, RING_OF_6, [3]), [4, 1, 2, 4, 5])
        self.assertEqual(beside(6, 3, STAR_OF_6, [1]), [1, 0])
        self.assertEqual(beside(7, 0, LINE_OF_7, [6]), [2, 1, 5])
        self.assertEqual(beside(7, 0, LARGE_NETS[-1][1], [4]), [4, 1, 3, 5, 6])


class SomePlacesTold(unittest.TestCase):
    def test_lines(self):
        self.assertEqual(beside(4, 0, LINE_OF_4, [1, 2]), [1, 3])
        self.assertEqual(beside(5, 2, LINE_OF_5, [1, 3]), [2, 0, 4])
        self.assertEqual(beside(5, 2, LINE_OF_5, [1, 0]), [1, 3])
        self.assertEqual(beside(6, 2, LINE_OF_6, [3, 4]), [2, 1, 5])
        self.assertEqual(beside(7, 3, LINE_OF_7, [2, 4, 1]), [2, 0, 5])

    def test_rings(self):
        self.assertEqual(beside(5, 0, RING_OF_5, [4, 1]), [2, 2, 3])
        self.assertEqual(beside(6, 0, RING_OF_6, [1, 5]), [2, 2, 4])
        self.assertEqual(beside(6, 0, RING_OF_6, [1, 2, 3, 4]), [1, 5])
        self.assertEqual(beside(7, 2, RING_OF_7, [1, 0, 6, 5]), [2, 3, 4])

    def test_a_star(self):
        self.assertEqual(beside(6, 3, STAR_OF_6, [1, 2, 4, 5]), [1, 0])
        self.assertEqual(beside(6, 0, STAR_OF_6, [4, 2]), [3, 1, 3, 5])

    def test_in_whatever_order(self):
        net = LARGE_NETS[-1][1]
        self.assertEqual(beside(7, 0, net, [2, 5]), [4, 1, 3, 4, 6])
        self.assertEqual(beside(7, 0, net, [5, 2]), [4, 1, 3, 4, 6])
        self.assertEqual(beside(5, 2, LINE_OF_5, [3, 1]), [2, 0, 4])

    def test_places_that_are_not_beside_any_other_that_is_told(self):
        # No order of known: they couldn't be looked into so.
        self.assertEqual(beside(5, 2, LINE_OF_5, [0, 4]), [2, 1, 3])
        self.assertEqual(beside(5, 2, LINE_OF_5, [4, 0]), [2, 1, 3])
        self.assertEqual(beside(6, 0, RING_OF_6, [2, 4]), [3, 1, 3, 5])
        self.assertEqual(beside(6, 1, STAR_OF_6, [5, 3]), [1, 0])
        self.assertEqual(beside(7, 3, LINE_OF_7, [0, 6]), [4, 1, 2, 4, 5])
        self.assertEqual(beside(7, 3, LINE_OF_7, [1, 5]), [4, 0, 2, 4, 6])


class AllButHomeTold(unittest.TestCase):
    def test_none_is_left(self):
        self.assertEqual(beside(3, 0, LINE_OF_3, [1, 2]), [0])
        self.assertEqual(beside(3, 0, LINE_OF_3, [2, 1]), [0])
        self.assertEqual(beside(4, 2, RING_OF_4, [0, 1, 3]), [0])
        self.assertEqual(beside(5, 3, ALL_LINKS_OF_5, [4, 2, 0, 1]), [0])
        self.assertEqual(beside(6, 0, RING_OF_6, [1, 2, 3, 4, 5]), [0])
        self.assertEqual(beside(7, 3, LINE_OF_7, [6, 0, 5, 1, 4, 2]), [0])


class APlaceToldMoreThanOnce(unittest.TestCase):
    def test_it_counts_as_told_once(self):
        self.assertEqual(beside(3, 0, LINE_OF_3, [1, 1]), [1, 2])
        self.assertEqual(beside(4, 0, LINE_OF_4, [1, 1]), [1, 2])
        self.assertEqual(beside(4, 0, LINE_OF_4, [2, 2, 2]), [2, 1, 3])
        self.assertEqual(beside(5, 2, LINE_OF_5, [1, 3, 1, 3]), [2, 0, 4])
        self.assertEqual(beside(6, 0, STAR_OF_6, [4, 4, 4, 4, 4]), [4, 1, 2, 3, 5])
        self.assertEqual(beside(7, 3, LINE_OF_7, [1, 1, 1, 1, 1, 1]), [3, 0, 2, 4])


class OtherNets(unittest.TestCase):
    def test_a_place_that_is_only_beside_one_other(self):
        # 3 is beside 2 alone.
        net = [0, 1, 0, 2, 1, 2, 2, 3]
        self.assertEqual(beside(4, 0, net, []), [2, 1, 2])
        self.assertEqual(beside(4, 0, net, [1]), [1, 2])
        self.assertEqual(beside(4, 0, net, [2]), [2, 1, 3])
        self.assertEqual(beside(4, 0, net, [1, 2]), [1, 3])
        self.assertEqual(beside(4, 3, net, []), [1, 2])
        self.assertEqual(beside(4, 3, net, [0]), [2, 1, 2])
        self.assertEqual(beside(4, 3, net, [0, 1]), [1, 2])

    def test_a_place_beside_two_that_are_told_is_told_once(self):
        self.assertEqual(beside(4, 0, RING_OF_4, [2]), [2, 1, 3])
        self.assertEqual(beside(4, 0, RING_OF_4, [1, 3]), [1, 2])
        self.assertEqual(beside(5, 0, ALL_LINKS_OF_5, [2, 4]), [2, 1, 3])

    def test_they_rise_however_the_links_are_told(self):
        self.assertEqual(beside(6, 0, [5, 0, 3, 0, 0, 2, 1, 0, 0, 4], []), [5, 1, 2, 3, 4, 5])
        self.assertEqual(beside(5, 2, [4, 3, 1, 0, 3, 2, 2, 1], [3, 1]), [2, 0, 4])
        self.assertEqual(beside(7, 0, [6, 0, 0, 4, 4, 5, 5, 1, 2, 5, 3, 4], [4, 5]), [4, 1, 2, 3, 6])


if __name__ == "__main__":
    unittest.main()
