"""What mean answers where nothing is refused (promise 3, its second sentence)."""

import unittest

from swallower.orders import known, mean, soonest
from tests.helper import (
    ALL_LINKS_OF_3, ALL_LINKS_OF_4, ALL_LINKS_OF_5, LINE_OF_3, LINE_OF_4, LINE_OF_5, LINE_OF_6,
    RING_OF_4, RING_OF_5, RING_OF_6, STAR_OF_4_ROUND_3, STAR_OF_5, STAR_OF_6,
)


class Answers(unittest.TestCase):
    def check(self, home, net, behind, order):
        """Where order is the answer's, and behind the steps that known tells of its places."""
        n = len(order) + 1
        self.assertEqual(mean(n, home, net), [sum(behind)] + order)
        self.assertEqual(known(n, home, net, order), [n - 1] + behind)


class OneAndTwoPlaces(Answers):
    def test_one_place_leaves_no_order(self):
        self.assertEqual(mean(1, 0, []), [0])
        self.check(0, [], [], [])

    def test_of_two_places_the_other_is_known_at_once(self):
        self.assertEqual(mean(2, 0, [0, 1]), [0, 1])
        self.check(0, [0, 1], [0], [1])
        self.check(1, [0, 1], [0], [0])
        self.check(1, [1, 0], [0], [0])


class TheWholeAnswer(unittest.TestCase):
    def test_number_by_number(self):
        self.assertEqual(mean(3, 0, LINE_OF_3), [4, 1, 2])
        self.assertEqual(mean(4, 1, LINE_OF_4), [10, 0, 2, 3])
        self.assertEqual(mean(5, 2, LINE_OF_5), [20, 1, 3, 0, 4])
        self.assertEqual(mean(6, 0, LINE_OF_6), [37, 1, 2, 3, 4, 5])
        self.assertEqual(mean(6, 0, RING_OF_6), [33, 1, 5, 2, 3, 4])
        self.assertEqual(mean(6, 5, STAR_OF_6), [32, 0, 1, 2, 3, 4])


class Lines(Answers):
    def test_home_at_an_end(self):
        # There's one order alone; its last place is beside none but the one ahead of it.
        self.check(0, LINE_OF_3, [2, 2], [1, 2])
        self.check(2, LINE_OF_3, [2, 2], [1, 0])
        self.check(0, LINE_OF_4, [2, 5, 5], [1, 2, 3])
        self.check(0, LINE_OF_5, [2, 5, 8, 8], [1, 2, 3, 4])
        self.check(5, LINE_OF_6, [2, 5, 8, 11, 11], [4, 3, 2, 1, 0])

    def test_home_in_the_midst(self):
        self.check(1, LINE_OF_3, [2, 2], [0, 2])
        self.check(1, LINE_OF_4, [2, 4, 4], [0, 2, 3])
        self.check(2, LINE_OF_4, [2, 4, 4], [1, 3, 0])
        self.check(1, LINE_OF_5, [2, 4, 7, 7], [0, 2, 3, 4])
        self.check(2, LINE_OF_5, [2, 4, 7, 7], [1, 3, 0, 4])

    def test_the_nearest_place_next_is_not_always_best(self):
        # 1, 3 and 0 are the nearest of home 2, but then 4 takes 11 steps: 35 all together.
        self.check(2, LINE_OF_6, [2, 4, 7, 10, 10], [1, 3, 4, 5, 0])
        self.check(3, LINE_OF_6, [2, 4, 7, 10, 10], [2, 4, 1, 0, 5])


class Rings(Answers):
    def test_from_home_0(self):
        self.check(0, RING_OF_4, [2, 4, 4], [1, 3, 2])
        self.check(0, RING_OF_5, [2, 4, 7, 7], [1, 4, 2, 3])
        self.check(0, RING_OF_6, [2, 4, 7, 10, 10], [1, 5, 2, 3, 4])

    def test_from_another_home(self):
        self.check(2, RING_OF_4, [2, 4, 4], [1, 3, 0])
        self.check(3, RING_OF_5, [2, 4, 7, 7], [2, 4, 0, 1])
        self.check(4, RING_OF_6, [2, 4, 7, 10, 10], [3, 5, 0, 1, 2])


class LikeOrders(Answers):
    def test_a_star_from_its_midst(self):
        self.check(3, STAR_OF_4_ROUND_3, [2, 4, 4], [0, 1, 2])
        self.check(0, STAR_OF_5, [2, 4, 6, 6], [1, 2, 3, 4])
        self.check(0, STAR_OF_6, [2, 4, 6, 8, 8], [1, 2, 3, 4, 5])

    def test_a_star_from_one_of_its_ends(self):
        self.check(1, STAR_OF_5, [2, 5, 7, 7], [0, 2, 3, 4])
        self.check(5, STAR_OF_6, [2, 5, 7, 9, 9], [0, 1, 2, 3, 4])

    def test_each_place_beside_each_other(self):
        self.check(1, ALL_LINKS_OF_3, [2, 2], [0, 2])
        self.check(2, ALL_LINKS_OF_4, [2, 4, 4], [0, 1, 3])
        self.check(3, ALL_LINKS_OF_5, [2, 4, 6, 6], [0, 1, 2, 4])

    def test_home_beside_each_of_five_others(self):
        self.check(0, ALL_LINKS_OF_5[:-2] + [0, 5], [2, 4, 6, 8, 8], [1, 2, 3, 4, 5])

    def test_however_the_links_are_told(self):
        self.check(3, [2, 3, 3, 1, 0, 3], [2, 4, 4], [0, 1, 2])
        self.check(2, [4, 3, 1, 0, 3, 2, 2, 1], [2, 4, 7, 7], [1, 3, 0, 4])
        self.check(0, [0, 5, 4, 5, 4, 3, 2, 3, 1, 2, 1, 0], [2, 4, 7, 10, 10], [1, 5, 2, 3, 4])


class OtherThanSoonest(Answers):
    def check_soonest(self, home, net, behind, order):
        """Where order is the one that soonest tells: as soon at worst, but of more steps all together."""
        n = len(order) + 1
        self.assertEqual(soonest(n, home, net), [max(behind)] + order)
        self.assertEqual(known(n, home, net, order), [n - 1] + behind)

    def test_a_place_beside_home_comes_ahead_of_lesser_ones_further_off(self):
        net = [0, 1, 0, 2, 0, 3, 1, 4]
        self.check(1, net, [2, 4, 7, 7], [0, 4, 2, 3])
        self.check_soonest(1, net, [2, 5, 7, 7], [0, 2, 3, 4])

    def test_of_six_places(self):
        net = [0, 1, 0, 2, 0, 3, 0, 4, 1, 5]
        self.check(1, net, [2, 4, 7, 9, 9], [0, 5, 2, 3, 4])
        self.check_soonest(1, net, [2, 5, 7, 9, 9], [0, 2, 3, 4, 5])

    def test_two_places_beside_home(self):
        net = [0, 1, 0, 2, 0, 3, 1, 4, 1, 5]
        self.check(1, net, [2, 4, 6, 9, 9], [0, 4, 5, 2, 3])
        self.check_soonest(1, net, [2, 4, 7, 9, 9], [0, 4, 2, 3, 5])

    def test_a_long_way_behind_the_lesser_place(self):
        net = [0, 1, 0, 2, 0, 3, 1, 4, 4, 5]
        self.check(4, net, [2, 4, 7, 10, 10], [1, 5, 0, 2, 3])
        self.check_soonest(4, net, [2, 5, 8, 10, 10], [1, 0, 2, 3, 5])


class WaysThroughSafePlaces(Answers):
    def test_a_place_that_is_only_beside_the_one_that_swallows(self):
        # 3 is beside 2 alone.
        self.check(0, [0, 1, 0, 2, 1, 2, 2, 3], [2, 4, 4], [1, 2, 3])
        # 1 is beside 3 alone.
        self.check(0, [0, 2, 0, 3, 3, 1], [2, 4, 4], [2, 3, 1])

    def test_not_through_one_that_is_not_safe_yet(self):
        # 1 and 2 are beside 3 alone.
        self.check(0, STAR_OF_4_ROUND_3, [2, 5, 5], [3, 1, 2])
        self.check(4, [0, 1, 0, 2, 0, 3, 1, 4], [2, 5, 8, 8], [1, 0, 2, 3])

    def test_not_by_a_way_that_a_later_place_makes_shorter(self):
        # 0 and 3 are two steps apart through 5, and three through 1 and 2.
        self.check(0, [0, 1, 1, 2, 2, 3, 3, 4, 0, 5, 5, 3], [2, 4, 7, 10, 10], [1, 5, 2, 3, 4])

    def test_they_look_from_the_nearest_even_if_another_is_less(self):
        # 1 is beside 0 too, but they stand at 2.
        self.check(2, [0, 1, 0, 2, 0, 3, 1, 2], [2, 4, 4], [0, 1, 3])

    def test_they_look_from_the_least_of_equally_near_ones(self):
        # 2 is beside 3 and 4: looked into ahead of 5, it is so from 3, and 5 is then two steps further off.
        self.check(0, [0, 3, 0, 4, 1, 2, 2, 3, 2, 4, 4, 5], [2, 4, 7, 9, 9], [3, 4, 5, 2, 1])
        self.check(0, [0, 1, 1, 2, 2, 3, 3, 0, 1, 4, 3, 5], [2, 4, 7, 9, 9], [1, 3, 2, 4, 5])

    def test_a_later_order_of_fewer_steps_comes_ahead_of_the_first(self):
        # 3, 1, 4 can be followed too, but 5 or 2 is known behind 11 steps then.
        self.check(0, [0, 3, 1, 3, 1, 4, 2, 4, 3, 5], [2, 5, 7, 10, 10], [3, 1, 5, 4, 2])

    def test_the_last_place_counts_too_and_takes_no_steps_however_far_it_is(self):
        # As they look into 5 from 3, it's two steps to 1, on which 2 hangs.
        self.check(0, [0, 1, 1, 2, 0, 3, 3, 4, 3, 5], [2, 4, 7, 9, 9], [1, 3, 4, 5, 2])


if __name__ == "__main__":
    unittest.main()
