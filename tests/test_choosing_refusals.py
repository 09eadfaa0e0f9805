"""What the calls that choose an order refuse, and which of several refusals they answer (promise 1)."""

import unittest

from swallower.orders import mean, soonest
from tests.helper import ALL_LINKS_OF_5, LARGEST, LINE_OF_4, LINE_OF_6, LINE_OF_7, LINE_OF_8

CALLS = (soonest, mean)


class Refusals(unittest.TestCase):
    def check(self, number, n, home, net):
        for call in CALLS:
            with self.subTest(call=call.__name__, n=n, home=home, net=net):
                self.assertEqual(call(n, home, net), [number])

    def check_taken(self, n, home, net):
        for call in CALLS:
            with self.subTest(call=call.__name__, n=n, home=home, net=net):
                answer = call(n, home, net)
                self.assertGreaterEqual(answer[0], 0)
                self.assertEqual(sorted(answer[1:] + [home]), list(range(n)))


class HowManyPlaces(Refusals):
    def test_none(self):
        self.check(-22, 0, 0, [])
        self.check(-22, 0, 0, [0, 1])

    def test_one_to_six_are_taken(self):
        for n in range(1, 7):
            self.check_taken(n, 0, LINE_OF_6[:2 * n - 2])

    def test_seven_are_too_many_to_choose_from(self):
        self.check(-75, 7, 0, LINE_OF_7)
        self.check(-75, 7, 3, LINE_OF_7)
        self.check(-75, 7, 6, LINE_OF_7)
        self.check(-75, 7, 1, [0, 6, 1, 6, 2, 6, 3, 6, 4, 6, 5, 6])
        self.check(-75, 7, 0, ALL_LINKS_OF_5[:-4] + [0, 5, 0, 6])

    def test_more_than_seven(self):
        self.check(-22, 8, 0, LINE_OF_8)
        self.check(-22, 9, 0, LINE_OF_8 + [7, 8])
        self.check(-22, LARGEST, 0, [])
        self.check(-22, LARGEST, 0, LINE_OF_4)

    def test_other_than_the_links_join(self):
        self.check(-22, 5, 0, LINE_OF_4)
        self.check(-22, 3, 0, LINE_OF_4)


class Links(Refusals):
    def test_an_odd_number_of_numbers(self):
        self.check(-22, 1, 0, [0])
        self.check(-22, 2, 0, [0, 1, 0])
        self.check(-22, 4, 0, LINE_OF_4 + [0])
        self.check(-22, 4, 0, LINE_OF_4[:-1])
        self.check(-22, 4, 0, LINE_OF_4 + [LARGEST])

    def test_a_number_that_no_place_is(self):
        self.check(-22, 1, 0, [0, 1])
        self.check(-22, 4, 0, LINE_OF_4 + [3, 4])
        self.check(-22, 4, 0, LINE_OF_4 + [4, 3])
        self.check(-22, 4, 0, LINE_OF_4 + [0, LARGEST])
        self.check(-22, 4, 0, [LARGEST, 0] + LINE_OF_4)
        self.check(-22, 4, 0, LINE_OF_4 + [LARGEST - 1, LARGEST])

    def test_from_a_place_to_itself(self):
        self.check(-22, 1, 0, [0, 0])
        self.check(-22, 4, 0, LINE_OF_4 + [3, 3])
        self.check(-22, 4, 0, [0, 0] + LINE_OF_4)
        self.check(-22, 4, 0, LINE_OF_4 + [LARGEST, LARGEST])

    def test_twice_in_the_same_direction(self):
        self.check(-22, 2, 0, [0, 1, 0, 1])
        self.check(-22, 4, 0, LINE_OF_4 + [0, 1])

    def test_twice_in_the_other_direction(self):
        self.check(-22, 2, 0, [0, 1, 1, 0])
        self.check(-22, 4, 0, LINE_OF_4 + [3, 2])

    def test_twice_with_a_number_that_no_place_is(self):
        self.check(-22, 4, 0, LINE_OF_4 + [0, LARGEST, 0, LARGEST])
        self.check(-22, 4, 0, LINE_OF_4 + [0, LARGEST, LARGEST, 0])

    def test_more_than_ten(self):
        self.check_taken(6, 0, ALL_LINKS_OF_5[:-2] + [0, 5])
        self.check(-22, 6, 0, ALL_LINKS_OF_5 + [0, 5])
        self.check(-22, 6, 0, ALL_LINKS_OF_5 + [0, 5, 5, 1])
        self.check(-22, 4, 0, [LARGEST] * 22)
        self.check(-22, 4, 0, LINE_OF_4 + [LARGEST] * 18)


class HangingTogether(Refusals):
    def test_no_link_at_all(self):
        self.check_taken(1, 0, [])
        self.check(-22, 2, 0, [])
        self.check(-22, 6, 0, [])

    def test_one_place_by_itself(self):
        self.check(-22, 3, 0, [0, 1])
        self.check(-22, 4, 0, [0, 1, 1, 2, 2, 0])
        self.check(-22, 4, 1, [1, 2, 2, 3, 3, 1])

    def test_home_by_itself(self):
        self.check(-22, 4, 3, [0, 1, 1, 2, 2, 0])

    def test_two_parts(self):
        self.check(-22, 4, 0, [0, 1, 2, 3])
        self.check(-22, 6, 0, [0, 1, 1, 2, 2, 0, 3, 4, 4, 5, 5, 3])


class Home(Refusals):
    def test_the_last_place_is_one(self):
        self.check_taken(1, 0, [])
        self.check_taken(4, 3, LINE_OF_4)
        self.check_taken(6, 5, LINE_OF_6)

    def test_no_place(self):
        self.check(-2, 1, 1, [])
        self.check(-2, 4, 4, LINE_OF_4)
        self.check(-2, 4, 5, LINE_OF_4)
        self.check(-2, 6, 6, LINE_OF_6)
        self.check(-2, 4, LARGEST, LINE_OF_4)
        self.check(-2, 1, LARGEST, [])


class WhichIsAnsweredFirst(Refusals):
    def test_home_ahead_of_too_many_places(self):
        self.check(-2, 7, 7, LINE_OF_7)
        self.check(-2, 7, 8, LINE_OF_7)
        self.check(-2, 7, LARGEST, LINE_OF_7)

    def test_the_net_ahead_of_too_many_places(self):
        self.check(-22, 7, 0, LINE_OF_7 + [0])
        self.check(-22, 7, 0, LINE_OF_7 + [0, 7])
        self.check(-22, 7, 0, LINE_OF_7 + [0, LARGEST])
        self.check(-22, 7, 0, LINE_OF_7 + [6, 6])
        self.check(-22, 7, 0, LINE_OF_7 + [0, 1])
        self.check(-22, 7, 0, LINE_OF_7 + [1, 0])
        self.check(-22, 7, 0, ALL_LINKS_OF_5 + [0, 5, 0, 6])
        self.check(-22, 7, 0, LINE_OF_6)
        self.check(-22, 7, 0, [])

    def test_the_net_ahead_of_home(self):
        self.check(-22, 0, 0, [])
        self.check(-22, 0, LARGEST, [])
        self.check(-22, 4, 4, LINE_OF_4 + [0])
        self.check(-22, 4, 4, LINE_OF_4 + [3, 4])
        self.check(-22, 4, 4, LINE_OF_4 + [2, 2])
        self.check(-22, 4, 4, LINE_OF_4 + [0, 1])
        self.check(-22, 4, 4, LINE_OF_4 + [1, 0])
        self.check(-22, 6, 6, ALL_LINKS_OF_5 + [0, 5])
        self.check(-22, 4, 4, [0, 1, 2, 3])
        self.check(-22, 4, LARGEST, [0, 1, 2, LARGEST])

    def test_the_net_ahead_of_home_and_too_many_places(self):
        self.check(-22, 7, 7, LINE_OF_6)
        self.check(-22, 7, LARGEST, LINE_OF_7 + [6, 5])
        self.check(-22, 8, 8, LINE_OF_8)
        self.check(-22, LARGEST, LARGEST, [])
        self.check(-22, LARGEST, LARGEST, [LARGEST] * 24)


if __name__ == "__main__":
    unittest.main()
