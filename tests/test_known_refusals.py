"""What known refuses, and which of several refusals it answers (promise 1)."""

import unittest

from swallower.orders import known
from tests.helper import ALL_LINKS_OF_5, LARGEST, LINE_OF_4, LINE_OF_7, LINE_OF_8


class HowManyPlaces(unittest.TestCase):
    def test_none(self):
        self.assertEqual(known(0, 0, [], []), [-22])
        self.assertEqual(known(0, 0, [0, 1], [1]), [-22])

    def test_seven_are_a_net(self):
        self.assertEqual(known(7, 0, LINE_OF_7, [1, 2, 3, 4, 5, 6]), [6, 2, 5, 8, 11, 14, 14])

    def test_more_than_seven(self):
        self.assertEqual(known(8, 0, LINE_OF_8, [1, 2, 3, 4, 5, 6, 7]), [-22])
        self.assertEqual(known(9, 0, LINE_OF_8 + [7, 8], [1, 2, 3, 4, 5, 6, 7, 8]), [-22])
        self.assertEqual(known(LARGEST, 0, [], []), [-22])
        self.assertEqual(known(LARGEST, 0, LINE_OF_4, [1, 2, 3]), [-22])

    def test_other_than_the_links_join(self):
        self.assertEqual(known(5, 0, LINE_OF_4, [1, 2, 3, 4]), [-22])
        self.assertEqual(known(3, 0, LINE_OF_4, [1, 2]), [-22])


class Links(unittest.TestCase):
    def test_an_odd_number_of_numbers(self):
        self.assertEqual(known(1, 0, [0], []), [-22])
        self.assertEqual(known(2, 0, [0, 1, 0], [1]), [-22])
        self.assertEqual(known(4, 0, LINE_OF_4 + [0], [1, 2, 3]), [-22])
        self.assertEqual(known(4, 0, LINE_OF_4[:-1], [1, 2, 3]), [-22])
        self.assertEqual(known(4, 0, LINE_OF_4 + [LARGEST], [1, 2, 3]), [-22])

    def test_a_number_that_no_place_is(self):
        self.assertEqual(known(4, 0, [0, 1, 1, 2, 2, 3, 3, 4], [1, 2, 3]), [-22])
        self.assertEqual(known(4, 0, [0, 1, 1, 2, 2, 3, 4, 3], [1, 2, 3]), [-22])
        self.assertEqual(known(4, 0, LINE_OF_4 + [0, LARGEST], [1, 2, 3]), [-22])
        self.assertEqual(known(4, 0, [LARGEST, 0] + LINE_OF_4, [1, 2, 3]), [-22])
        self.assertEqual(known(4, 0, LINE_OF_4 + [LARGEST - 1, LARGEST], [1, 2, 3]), [-22])
        self.assertEqual(known(1, 0, [0, 1], []), [-22])

    def test_from_a_place_to_itself(self):
        self.assertEqual(known(1, 0, [0, 0], []), [-22])
        self.assertEqual(known(4, 0, LINE_OF_4 + [3, 3], [1, 2, 3]), [-22])
        self.assertEqual(known(4, 0, [0, 0] + LINE_OF_4, [1, 2, 3]), [-22])
        self.assertEqual(known(4, 0, LINE_OF_4 + [LARGEST, LARGEST], [1, 2, 3]), [-22])

    def test_twice_in_the_same_direction(self):
        self.assertEqual(known(2, 0, [0, 1, 0, 1], [1]), [-22])
        self.assertEqual(known(4, 0, LINE_OF_4 + [0, 1], [1, 2, 3]), [-22])

    def test_twice_in_the_other_direction(self):
        self.assertEqual(known(2, 0, [0, 1, 1, 0], [1]), [-22])
        self.assertEqual(known(4, 0, LINE_OF_4 + [3, 2], [1, 2, 3]), [-22])

    def test_more_than_ten(self):
        self.assertEqual(known(6, 0, ALL_LINKS_OF_5[:-2] + [0, 5], [1, 2, 3, 4, 5]), [5, 2, 4, 6, 8, 8])
        self.assertEqual(known(6, 0, ALL_LINKS_OF_5 + [0, 5], [1, 2, 3, 4, 5]), [-22])
        self.assertEqual(known(6, 0, ALL_LINKS_OF_5 + [0, 5, 5, 1], [1, 2, 3, 4, 5]), [-22])
        self.assertEqual(known(7, 0, ALL_LINKS_OF_5 + [0, 5, 0, 6], [1, 2, 3, 4, 5, 6]), [-22])


class HangingTogether(unittest.TestCase):
    def test_no_link_at_all(self):
        self.assertEqual(known(2, 0, [], [1]), [-22])
        self.assertEqual(known(7, 0, [], [1, 2, 3, 4, 5, 6]), [-22])

    def test_one_place_by_itself(self):
        self.assertEqual(known(4, 0, [0, 1, 1, 2, 2, 0], [1, 2, 3]), [-22])
        self.assertEqual(known(4, 1, [1, 2, 2, 3, 3, 1], [2, 3, 0]), [-22])

    def test_two_parts(self):
        self.assertEqual(known(4, 0, [0, 1, 2, 3], [1, 2, 3]), [-22])
        self.assertEqual(known(7, 0, [0, 1, 1, 2, 2, 0, 3, 4, 4, 5, 5, 6, 6, 3], [1, 2, 3, 4, 5, 6]), [-22])

    def test_even_where_only_the_last_place_is_cut_off(self):
        self.assertEqual(known(3, 0, [0, 1], [1, 2]), [-22])


class Home(unittest.TestCase):
    def test_the_last_place_is_one(self):
        self.assertEqual(known(4, 3, LINE_OF_4, [2, 1, 0]), [3, 2, 5, 5])

    def test_no_place(self):
        self.assertEqual(known(4, 4, LINE_OF_4, [0, 1, 2, 3]), [-2])
        self.assertEqual(known(4, 5, LINE_OF_4, [0, 1, 2, 3]), [-2])
        self.assertEqual(known(1, 1, [], [0]), [-2])
        self.assertEqual(known(1, 1, [], []), [-2])
        self.assertEqual(known(7, 7, LINE_OF_7, [0, 1, 2, 3, 4, 5, 6]), [-2])
        self.assertEqual(known(4, LARGEST, LINE_OF_4, [0, 1, 2, 3]), [-2])


class Order(unittest.TestCase):
    def test_too_short(self):
        self.assertEqual(known(4, 0, LINE_OF_4, []), [-22])
        self.assertEqual(known(4, 0, LINE_OF_4, [1]), [-22])
        self.assertEqual(known(4, 0, LINE_OF_4, [1, 2]), [-22])
        self.assertEqual(known(2, 0, [0, 1], []), [-22])

    def test_too_long(self):
        self.assertEqual(known(4, 0, LINE_OF_4, [1, 2, 3, 3]), [-22])
        self.assertEqual(known(4, 0, LINE_OF_4, [1, 2, 3, 4]), [-22])
        self.assertEqual(known(4, 0, LINE_OF_4, [1, 2, 3, LARGEST]), [-22])
        self.assertEqual(known(1, 0, [], [1]), [-22])
        self.assertEqual(known(7, 0, LINE_OF_7, [1, 2, 3, 4, 5, 6, 7, 8]), [-22])

    def test_a_place_twice(self):
        self.assertEqual(known(4, 0, LINE_OF_4, [1, 2, 2]), [-22])
        self.assertEqual(known(4, 0, LINE_OF_4, [1, 1, 2]), [-22])
        self.assertEqual(known(4, 0, LINE_OF_4, [1, 2, 1, 3]), [-22])

    def test_home_among_them(self):
        self.assertEqual(known(4, 0, LINE_OF_4, [1, 2, 0]), [-22])
        self.assertEqual(known(4, 0, LINE_OF_4, [0, 1, 2]), [-22])
        self.assertEqual(known(4, 0, LINE_OF_4, [0, 1, 2, 3]), [-22])
        self.assertEqual(known(4, 2, LINE_OF_4, [1, 2, 3]), [-22])
        self.assertEqual(known(1, 0, [], [0]), [-22])

    def test_one_that_there_is_not(self):
        self.assertEqual(known(4, 0, LINE_OF_4, [1, 2, 4]), [-22])
        self.assertEqual(known(4, 0, LINE_OF_4, [4, 1, 2]), [-22])
        self.assertEqual(known(4, 0, LINE_OF_4, [1, 2, LARGEST]), [-22])
        self.assertEqual(known(4, 0, LINE_OF_4, [LARGEST, LARGEST - 1, LARGEST - 2]), [-22])


class WhichIsAnsweredFirst(unittest.TestCase):
    def test_the_net_ahead_of_home(self):
        self.assertEqual(known(0, 0, [], []), [-22])
        self.assertEqual(known(0, LARGEST, [], []), [-22])
        self.assertEqual(known(8, 8, LINE_OF_8, [0, 1, 2, 3, 4, 5, 6, 7]), [-22])
        self.assertEqual(known(LARGEST, LARGEST, [], []), [-22])
        self.assertEqual(known(4, 4, LINE_OF_4 + [0], [0, 1, 2, 3]), [-22])
        self.assertEqual(known(4, 4, LINE_OF_4 + [3, 4], [0, 1, 2, 3]), [-22])
        self.assertEqual(known(4, 4, LINE_OF_4 + [2, 2], [0, 1, 2, 3]), [-22])
        self.assertEqual(known(4, 4, LINE_OF_4 + [1, 0], [0, 1, 2, 3]), [-22])
        self.assertEqual(known(6, 6, ALL_LINKS_OF_5 + [0, 5], [0, 1, 2, 3, 4, 5]), [-22])
        self.assertEqual(known(4, 4, [0, 1, 2, 3], [0, 1, 2, 3]), [-22])
        self.assertEqual(known(4, LARGEST, [0, 1, 2, LARGEST], [1, 2, 3]), [-22])

    def test_home_ahead_of_order(self):
        self.assertEqual(known(4, 4, LINE_OF_4, []), [-2])
        self.assertEqual(known(4, 4, LINE_OF_4, [1, 2, 3]), [-2])
        self.assertEqual(known(4, 4, LINE_OF_4, [1, 1, 1, 1]), [-2])
        self.assertEqual(known(4, 4, LINE_OF_4, [0, 1, 2, 4]), [-2])
        self.assertEqual(known(4, LARGEST, LINE_OF_4, [LARGEST, LARGEST]), [-2])

    def test_the_net_ahead_of_home_and_order(self):
        self.assertEqual(known(4, 4, [0, 1, 2, 3], []), [-22])
        self.assertEqual(known(LARGEST, LARGEST, [LARGEST] * 24, [LARGEST] * 8), [-22])

    def test_order_ahead_of_what_they_cannot_look_into(self):
        self.assertEqual(known(4, 0, LINE_OF_4, [3, 2]), [-22])
        self.assertEqual(known(4, 0, LINE_OF_4, [3, 2, 2]), [-22])
        self.assertEqual(known(4, 0, LINE_OF_4, [3, 2, 0]), [-22])
        self.assertEqual(known(4, 0, LINE_OF_4, [3, 2, 1, LARGEST]), [-22])

    def test_home_ahead_of_what_they_cannot_look_into(self):
        self.assertEqual(known(4, 4, LINE_OF_4, [3, 1, 0, 2]), [-2])

    def test_the_net_ahead_of_what_they_cannot_look_into(self):
        self.assertEqual(known(4, 0, [0, 1, 2, 3], [2, 1, 3]), [-22])


if __name__ == "__main__":
    unittest.main()
