"""What known answers where nothing is refused (promise 2), and its -33."""

import unittest

from swallower.orders import known
from tests.helper import (
    ALL_LINKS_OF_5, LINE_OF_3, LINE_OF_4, LINE_OF_5, LINE_OF_7, RING_OF_4, RING_OF_5, RING_OF_6, RING_OF_7,
)


class OneAndTwoPlaces(unittest.TestCase):
    def test_one_place_leaves_nothing_to_tell(self):
        self.assertEqual(known(1, 0, [], []), [0])

    def test_of_two_places_the_other_is_known_at_once(self):
        self.assertEqual(known(2, 0, [0, 1], [1]), [1, 0])
        self.assertEqual(known(2, 1, [0, 1], [0]), [1, 0])
        self.assertEqual(known(2, 1, [1, 0], [0]), [1, 0])


class Lines(unittest.TestCase):
    def test_home_at_an_end(self):
        self.assertEqual(known(3, 0, LINE_OF_3, [1, 2]), [2, 2, 2])
        self.assertEqual(known(3, 2, LINE_OF_3, [1, 0]), [2, 2, 2])
        self.assertEqual(known(4, 0, LINE_OF_4, [1, 2, 3]), [3, 2, 5, 5])
        self.assertEqual(known(5, 0, LINE_OF_5, [1, 2, 3, 4]), [4, 2, 5, 8, 8])
        self.assertEqual(known(7, 0, LINE_OF_7, [1, 2, 3, 4, 5, 6]), [6, 2, 5, 8, 11, 14, 14])

    def test_home_in_the_midst_of_three(self):
        self.assertEqual(known(3, 1, LINE_OF_3, [0, 2]), [2, 2, 2])
        self.assertEqual(known(3, 1, LINE_OF_3, [2, 0]), [2, 2, 2])

    def test_home_in_the_midst_of_five(self):
        self.assertEqual(known(5, 2, LINE_OF_5, [1, 3, 0, 4]), [4, 2, 4, 7, 7])
        self.assertEqual(known(5, 2, LINE_OF_5, [1, 0, 3, 4]), [4, 2, 5, 8, 8])
        self.assertEqual(known(5, 2, LINE_OF_5, [3, 4, 1, 0]), [4, 2, 5, 8, 8])

    def test_home_in_the_midst_of_seven(self):
        self.assertEqual(known(7, 3, LINE_OF_7, [2, 4, 1, 5, 0, 6]), [6, 2, 4, 7, 11, 16, 16])
        self.assertEqual(known(7, 3, LINE_OF_7, [2, 1, 4, 5, 0, 6]), [6, 2, 5, 8, 11, 16, 16])
        self.assertEqual(known(7, 3, LINE_OF_7, [2, 1, 0, 4, 5, 6]), [6, 2, 5, 8, 12, 15, 15])


class Rings(unittest.TestCase):
    def test_three_places(self):
        self.assertEqual(known(3, 0, [0, 1, 1, 2, 2, 0], [1, 2]), [2, 2, 2])
        self.assertEqual(known(3, 0, [0, 1, 1, 2, 2, 0], [2, 1]), [2, 2, 2])

    def test_four_places(self):
        self.assertEqual(known(4, 0, RING_OF_4, [1, 3, 2]), [3, 2, 4, 4])
        self.assertEqual(known(4, 0, RING_OF_4, [1, 2, 3]), [3, 2, 5, 5])

    def test_five_places_to_one_side_and_back(self):
        self.assertEqual(known(5, 0, RING_OF_5, [1, 2, 4, 3]), [4, 2, 5, 8, 8])
        self.assertEqual(known(5, 0, RING_OF_5, [1, 4, 2, 3]), [4, 2, 4, 7, 7])

    def test_six_places_the_way_back_goes_through_safe_ones(self):
        self.assertEqual(known(6, 0, RING_OF_6, [1, 2, 3, 5, 4]), [5, 2, 5, 8, 12, 12])
        self.assertEqual(known(6, 0, RING_OF_6, [1, 5, 2, 4, 3]), [5, 2, 4, 7, 11, 11])

    def test_seven_places(self):
        self.assertEqual(known(7, 0, RING_OF_7, [1, 2, 3, 4, 6, 5]), [6, 2, 5, 8, 11, 16, 16])
        self.assertEqual(known(7, 0, RING_OF_7, [6, 1, 5, 2, 4, 3]), [6, 2, 4, 7, 11, 16, 16])


class OtherNets(unittest.TestCase):
    def test_a_star_takes_two_steps_a_place(self):
        self.assertEqual(known(4, 2, [2, 0, 1, 2, 2, 3], [3, 0, 1]), [3, 2, 4, 4])
        self.assertEqual(known(7, 0, [0, 1, 0, 2, 0, 3, 0, 4, 0, 5, 0, 6], [6, 2, 4, 1, 3, 5]),
                         [6, 2, 4, 6, 8, 10, 10])

    def test_a_star_from_one_of_its_ends(self):
        self.assertEqual(known(5, 1, [0, 1, 0, 2, 0, 3, 0, 4], [0, 2, 3, 4]), [4, 2, 5, 7, 7])

    def test_ten_links_are_a_net_still(self):
        self.assertEqual(known(5, 3, ALL_LINKS_OF_5, [4, 0, 2, 1]), [4, 2, 4, 6, 6])

    def test_they_stay_where_they_looked_from(self):
        # A tree: 1 and 2 hang on 0, 3 and 4 on 1, 5 and 6 on 2.
        tree = [0, 1, 0, 2, 1, 3, 1, 4, 2, 5, 2, 6]
        self.assertEqual(known(7, 0, tree, [1, 3, 4, 2, 5, 6]), [6, 2, 5, 7, 10, 13, 13])
        self.assertEqual(known(7, 0, tree, [1, 2, 3, 5, 4, 6]), [6, 2, 4, 7, 11, 15, 15])

    def test_a_place_that_is_only_beside_the_one_that_swallows(self):
        # 3 is beside 2 alone: it's reached last, and known as 2 is known to be safe.
        self.assertEqual(known(4, 0, [0, 1, 0, 2, 1, 2, 2, 3], [1, 2, 3]), [3, 2, 4, 4])
        self.assertEqual(known(4, 0, [0, 1, 0, 2, 1, 2, 2, 3], [1, 3, 2]), [-33])

    def test_how_the_links_are_told_makes_no_difference(self):
        self.assertEqual(known(5, 2, [4, 3, 1, 0, 3, 2, 2, 1], [1, 3, 0, 4]), [4, 2, 4, 7, 7])
        self.assertEqual(known(5, 2, [1, 2, 0, 1, 4, 3, 2, 3], [1, 3, 0, 4]), [4, 2, 4, 7, 7])


class NoWayThroughUnsafePlaces(unittest.TestCase):
    # From 3 to 0 it's two steps through 5, and three through 2 and 1.
    SHORT_CUT = [0, 1, 1, 2, 2, 3, 3, 4, 0, 5, 5, 3, 0, 6]

    def test_not_through_the_last_one(self):
        self.assertEqual(known(7, 0, self.SHORT_CUT, [1, 2, 3, 4, 6, 5]), [6, 2, 5, 8, 11, 16, 16])

    def test_through_it_once_it_is_safe(self):
        self.assertEqual(known(7, 0, self.SHORT_CUT, [1, 2, 3, 5, 6, 4]), [6, 2, 5, 8, 11, 15, 15])
        self.assertEqual(known(7, 0, self.SHORT_CUT, [5, 1, 2, 3, 4, 6]), [6, 2, 4, 7, 10, 13, 13])
        self.assertEqual(known(7, 0, self.SHORT_CUT, [1, 2, 5, 3, 6, 4]), [6, 2, 5, 8, 11, 14, 14])
        self.assertEqual(known(7, 3, self.SHORT_CUT, [5, 0, 6, 4, 2, 1]), [6, 2, 5, 8, 12, 14, 14])

    def test_the_nearest_is_nearest_by_safe_places(self):
        # From 3 they look into 6: 0 is two steps off through 5, but three by safe ones, and 1 two.
        net = [0, 1, 1, 2, 2, 3, 3, 4, 0, 5, 5, 3, 0, 6, 6, 1]
        self.assertEqual(known(7, 0, net, [1, 2, 3, 4, 6, 5]), [6, 2, 5, 8, 11, 15, 15])

    def test_not_looked_into_from_an_unsafe_one(self):
        # They stand at 2 as they look into 4, which is beside 0 and beside 5; 5 is nearer, but not safe.
        net = [0, 1, 1, 2, 2, 3, 0, 4, 4, 5, 5, 2]
        self.assertEqual(known(6, 0, net, [1, 2, 3, 4, 5]), [5, 2, 5, 8, 12, 12])


class WhereTheyLookFrom(unittest.TestCase):
    # A square, with 4 on 1 and 5 on 3; 2 can be looked into from 1 and from 3.
    SQUARE = [0, 1, 1, 2, 2, 3, 3, 0, 1, 4, 3, 5]

    def test_of_equally_near_ones_the_least(self):
        self.assertEqual(known(6, 0, self.SQUARE, [1, 3, 2, 4, 5]), [5, 2, 4, 7, 9, 9])
        self.assertEqual(known(6, 0, self.SQUARE, [1, 3, 2, 5, 4]), [5, 2, 4, 7, 11, 11])

    def test_the_least_whichever_became_safe_first(self):
        self.assertEqual(known(6, 0, self.SQUARE, [3, 1, 2, 4, 5]), [5, 2, 4, 7, 9, 9])
        self.assertEqual(known(6, 0, self.SQUARE, [3, 1, 2, 5, 4]), [5, 2, 4, 7, 11, 11])

    def test_the_least_whichever_link_is_told_first(self):
        told_backwards = [5, 3, 4, 1, 0, 3, 3, 2, 2, 1, 1, 0]
        self.assertEqual(known(6, 0, told_backwards, [3, 1, 2, 4, 5]), [5, 2, 4, 7, 9, 9])
        self.assertEqual(known(6, 0, told_backwards, [1, 3, 2, 5, 4]), [5, 2, 4, 7, 11, 11])

    def test_of_three_equally_near_ones_the_least(self):
        # 4 hangs on 1, 2 and 3; 5 on 2, 6 on 1.
        net = [0, 3, 0, 2, 0, 1, 4, 3, 4, 2, 4, 1, 2, 5, 1, 6]
        self.assertEqual(known(7, 0, net, [3, 2, 1, 4, 6, 5]), [6, 2, 4, 6, 9, 11, 11])
        self.assertEqual(known(7, 0, net, [3, 2, 1, 4, 5, 6]), [6, 2, 4, 6, 9, 13, 13])

    def test_a_nearer_one_comes_ahead_of_a_lesser_one(self):
        # They stand at 1 as they look into 3, which is beside 0 and 1.
        net = [0, 1, 1, 2, 3, 0, 3, 1, 1, 4]
        self.assertEqual(known(5, 0, net, [1, 2, 3, 4]), [4, 2, 5, 7, 7])

    def test_where_they_stand_is_the_nearest(self):
        self.assertEqual(known(4, 3, [3, 0, 3, 1, 0, 1, 1, 2], [0, 1, 2]), [3, 2, 4, 4])
        self.assertEqual(known(5, 3, [3, 0, 3, 1, 0, 1, 1, 2, 3, 4], [0, 1, 4, 2]), [4, 2, 4, 6, 6])


class NotBesideASafeOne(unittest.TestCase):
    def test_the_first_place(self):
        self.assertEqual(known(4, 0, LINE_OF_4, [2, 1, 3]), [-33])
        self.assertEqual(known(7, 0, LINE_OF_7, [6, 1, 2, 3, 4, 5]), [-33])
        self.assertEqual(known(5, 0, RING_OF_5, [2, 1, 3, 4]), [-33])

    def test_the_first_place_that_is_the_last_but_one(self):
        self.assertEqual(known(3, 0, LINE_OF_3, [2, 1]), [-33])

    def test_in_the_midst(self):
        self.assertEqual(known(5, 0, LINE_OF_5, [1, 3, 2, 4]), [-33])
        self.assertEqual(known(6, 0, RING_OF_6, [1, 3, 2, 4, 5]), [-33])
        self.assertEqual(known(7, 3, LINE_OF_7, [2, 4, 0, 1, 5, 6]), [-33])

    def test_the_last_but_one(self):
        self.assertEqual(known(5, 0, LINE_OF_5, [1, 2, 4, 3]), [-33])
        self.assertEqual(known(7, 0, LINE_OF_7, [1, 2, 3, 4, 6, 5]), [-33])

    def test_beside_the_last_place_alone(self):
        # The last place is never safe while they look: 3 is beside it alone.
        self.assertEqual(known(4, 0, [0, 1, 0, 2, 2, 3], [1, 3, 2]), [-33])

    def test_not_on_account_of_the_last_place(self):
        # The last place is beside the last but one alone, or beside home alone.
        self.assertEqual(known(3, 0, LINE_OF_3, [1, 2]), [2, 2, 2])
        self.assertEqual(known(5, 0, LINE_OF_5, [1, 2, 3, 4]), [4, 2, 5, 8, 8])
        self.assertEqual(known(4, 0, [0, 3, 0, 1, 1, 2], [1, 2, 3]), [3, 2, 5, 5])

    def test_the_last_place_takes_no_steps_however_far_it_is(self):
        # From 4, where they look into 5, it's four steps to 0, on which 6 hangs.
        net = [0, 1, 1, 2, 2, 3, 3, 4, 4, 5, 0, 6]
        self.assertEqual(known(7, 0, net, [1, 2, 3, 4, 5, 6]), [6, 2, 5, 8, 11, 14, 14])
        self.assertEqual(known(7, 0, net, [1, 2, 3, 4, 6, 5]), [6, 2, 5, 8, 11, 16, 16])


if __name__ == "__main__":
    unittest.main()
