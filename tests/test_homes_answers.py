"""What homes answers where nothing is refused (promise 3, its third sentence)."""

import unittest

from swallower.orders import homes, soonest
from tests.helper import (
    ALL_LINKS_OF_3, ALL_LINKS_OF_4, ALL_LINKS_OF_5, LINE_OF_3, LINE_OF_4, LINE_OF_5, LINE_OF_6,
    RING_OF_4, RING_OF_5, RING_OF_6, STAR_OF_4_ROUND_3, STAR_OF_5, STAR_OF_6,
)


class Answers(unittest.TestCase):
    def check(self, n, net, answer):
        self.assertEqual(homes(n, net), answer)
        self.assertEqual([soonest(n, home, net)[0] for home in range(n)], answer[1:])


class OneAndTwoPlaces(Answers):
    def test_one_place_leaves_nothing_to_look_into(self):
        self.check(1, [], [1, 0])

    def test_of_two_places_the_other_is_known_at_once(self):
        self.check(2, [0, 1], [2, 0, 0])
        self.check(2, [1, 0], [2, 0, 0])


class Lines(Answers):
    def test_three_places_are_alike_still(self):
        self.check(3, LINE_OF_3, [3, 2, 2, 2])

    def test_midst_and_ends_differ(self):
        self.check(4, LINE_OF_4, [4, 5, 4, 4, 5])
        self.check(5, LINE_OF_5, [5, 8, 7, 7, 7, 8])
        self.check(6, LINE_OF_6, [6, 11, 10, 10, 10, 10, 11])

    def test_whose_ends_are_not_the_first_and_the_last_place(self):
        self.check(3, [1, 0, 0, 2], [3, 2, 2, 2])
        self.check(4, [2, 0, 0, 3, 3, 1], [4, 4, 5, 5, 4])
        self.check(5, [1, 4, 4, 0, 0, 2, 2, 3], [5, 7, 8, 7, 8, 7])


class Rings(Answers):
    def test_all_places_are_alike(self):
        self.check(4, RING_OF_4, [4, 4, 4, 4, 4])
        self.check(5, RING_OF_5, [5, 7, 7, 7, 7, 7])
        self.check(6, RING_OF_6, [6, 10, 10, 10, 10, 10, 10])

    def test_with_a_place_that_hangs_on_it(self):
        # 4 hangs on 3.
        self.check(5, RING_OF_4 + [3, 4], [5, 7, 7, 7, 6, 7])


class Stars(Answers):
    def test_its_midst_is_the_best_home(self):
        self.check(4, STAR_OF_4_ROUND_3, [4, 5, 5, 5, 4])
        self.check(5, STAR_OF_5, [5, 6, 7, 7, 7, 7])
        self.check(6, STAR_OF_6, [6, 8, 9, 9, 9, 9, 9])

    def test_two_with_their_midsts_beside_each_other(self):
        # 2 and 3 hang on 0, 4 and 5 on 1.
        self.check(6, [0, 1, 0, 2, 0, 3, 1, 4, 1, 5], [6, 9, 9, 10, 10, 10, 10])


class EachBesideEachOther(Answers):
    def test_all_places_are_alike(self):
        self.check(3, ALL_LINKS_OF_3, [3, 2, 2, 2])
        self.check(4, ALL_LINKS_OF_4, [4, 4, 4, 4, 4])
        self.check(5, ALL_LINKS_OF_5, [5, 6, 6, 6, 6, 6])

    def test_all_but_two_and_one_more_place(self):
        # 3 and 4 aren't beside each other; 5 hangs on 0.
        self.check(6, ALL_LINKS_OF_5[:-2] + [0, 5], [6, 8, 8, 8, 9, 9, 9])


class HoweverTheLinksAreTold(Answers):
    def test_in_another_row_and_direction(self):
        self.check(4, [2, 3, 1, 0, 2, 1], [4, 5, 4, 4, 5])
        self.check(5, [4, 3, 1, 0, 3, 2, 2, 1], [5, 8, 7, 7, 7, 8])
        self.check(6, [5, 0, 3, 0, 0, 2, 1, 0, 0, 4], [6, 8, 9, 9, 9, 9, 9])


class WaysThroughSafePlaces(Answers):
    def test_a_place_that_is_only_beside_the_one_that_swallows(self):
        # 3 is beside 2 alone.
        self.check(4, [0, 1, 0, 2, 1, 2, 2, 3], [4, 4, 4, 4, 5])
        # 4 is beside 1 alone.
        self.check(5, [0, 1, 0, 2, 0, 3, 1, 4], [5, 6, 7, 7, 7, 8])

    def test_not_by_a_way_that_a_later_place_makes_shorter(self):
        # 0 and 3 are two steps apart through 5, and three through 1 and 2.
        self.check(6, [0, 1, 1, 2, 2, 3, 3, 4, 0, 5, 5, 3], [6, 10, 10, 9, 9, 10, 9])

    def test_they_look_from_the_least_of_equally_near_ones(self):
        # From home 0, 2 can be looked into from 3 and from 4.
        self.check(6, [0, 3, 0, 4, 1, 2, 2, 3, 2, 4, 4, 5], [6, 9, 10, 9, 9, 9, 10])
        self.check(6, [0, 1, 1, 2, 2, 3, 3, 0, 1, 4, 3, 5], [6, 9, 9, 9, 9, 10, 10])


class AtWorst(Answers):
    def test_not_all_together(self):
        # From 2 the steps are 2, 4, 7 and 7; they're 20 all together.
        self.assertEqual(homes(5, LINE_OF_5)[3], 7)
        # From 0 they're 2 and 2.
        self.assertEqual(homes(3, LINE_OF_3)[1], 2)

    def test_by_the_best_order_not_the_first_that_can_be_followed(self):
        # From 0 the order 3, 1, 4 can be followed too, but takes 11 steps.
        self.check(6, [0, 3, 1, 3, 1, 4, 2, 4, 3, 5], [6, 10, 9, 11, 9, 10, 10])


if __name__ == "__main__":
    unittest.main()
