"""What is handed in stays as it is, nothing is kept, printed or read, and the answers are of the kind told."""

import contextlib
import io
import unittest
from unittest import mock

from swallower.orders import beside, homes, known, mean, soonest
from tests.helper import LARGEST, Unchanging

ORDERED = [
    (1, 0, [], []),
    (2, 1, [1, 0], [0]),
    (5, 2, [4, 3, 1, 0, 3, 2, 2, 1], [3, 1, 0, 4]),
    (7, 0, [0, 1, 1, 2, 2, 3, 3, 4, 0, 5, 5, 3, 0, 6], [5, 1, 2, 3, 4, 6]),
    (4, 0, [2, 3, 1, 2, 0, 1], [3, 2, 1]),
    (4, 9, [2, 3, 1, 2, 0, 1], [3, 2, 1]),
    (4, 0, [2, 3, 1, 2, 0, 1], [3, 2, 2, 0]),
    (4, 0, [2, 3, 1, 2, 0, 1, 1, 0], [3, 2, 1]),
    (LARGEST, LARGEST, [LARGEST] * 24, [LARGEST] * 8),
]
TO_CHOOSE = [
    (1, 0, []),
    (2, 1, [1, 0]),
    (5, 2, [4, 3, 1, 0, 3, 2, 2, 1]),
    (6, 0, [0, 3, 0, 4, 1, 2, 2, 3, 2, 4, 4, 5]),
    (6, 4, [5, 0, 5, 1, 0, 2, 1, 2, 2, 3, 3, 4, 4, 5, 1, 3, 0, 4, 2, 5]),
    (7, 0, [0, 1, 1, 2, 2, 3, 3, 4, 0, 5, 5, 3, 0, 6]),
    (4, 9, [2, 3, 1, 2, 0, 1]),
    (4, 0, [2, 3, 1, 2, 0, 1, 1, 0]),
    (4, 0, [2, 3, 1, 2, 0, 1, 1]),
    (LARGEST, LARGEST, [LARGEST] * 24),
]
TOLD_IN_PART = [
    (1, 0, [], []),
    (2, 1, [1, 0], []),
    (5, 2, [4, 3, 1, 0, 3, 2, 2, 1], [4, 0]),
    (5, 2, [4, 3, 1, 0, 3, 2, 2, 1], [3, 1, 3]),
    (7, 0, [0, 1, 1, 2, 2, 3, 3, 4, 0, 5, 5, 3, 0, 6], [5, 1]),
    (4, 0, [2, 3, 1, 2, 0, 1], [3, 0]),
    (4, 0, [2, 3, 1, 2, 0, 1], [4]),
]
CASES = ([(known, values) for values in ORDERED] + [(soonest, values) for values in TO_CHOOSE]
         + [(mean, values) for values in TO_CHOOSE] + [(homes, (n, net)) for n, home, net in TO_CHOOSE]
         + [(beside, values) for values in ORDERED + TOLD_IN_PART])


def copied(values, kind):
    """The values, each list among them as a new one of this kind."""
    return tuple(kind(value) if isinstance(value, list) else value for value in values)


class Arguments(unittest.TestCase):
    def test_what_is_handed_in_is_as_it_was(self):
        for call, values in CASES:
            handed_in = copied(values, list)
            call(*handed_in)
            self.assertEqual(handed_in, values)

    def test_what_is_handed_in_is_not_changed_for_a_while_either(self):
        for call, values in CASES:
            self.assertEqual(call(*copied(values, Unchanging)), call(*copied(values, list)))

    def test_arguments_by_name(self):
        self.assertEqual(known(n=3, home=0, net=[0, 1, 1, 2], order=[1, 2]), [2, 2, 2])
        self.assertEqual(soonest(n=3, home=0, net=[0, 1, 1, 2]), [2, 1, 2])
        self.assertEqual(mean(n=3, home=0, net=[0, 1, 1, 2]), [4, 1, 2])
        self.assertEqual(homes(n=3, net=[0, 1, 1, 2]), [3, 2, 2, 2])
        self.assertEqual(beside(n=3, home=0, net=[0, 1, 1, 2], order=[1]), [1, 2])


class Answers(unittest.TestCase):
    def test_a_second_call_answers_the_same(self):
        first = [call(*values) for call, values in CASES]
        second = [call(*values) for call, values in reversed(CASES)]
        self.assertEqual(first, list(reversed(second)))

    def test_an_answer_that_is_changed_does_not_change_the_next(self):
        for call, values in CASES:
            answer = call(*values)
            before = list(answer)
            answer.append(7)
            answer[0] = 7
            self.assertEqual(call(*values), before)

    def test_a_plain_list_of_whole_numbers(self):
        for call, values in CASES:
            answer = call(*values)
            self.assertIs(type(answer), list)
            self.assertTrue(all(type(number) is int for number in answer))

    def test_a_refusal_is_alone_and_else_there_are_as_many_numbers_as_told(self):
        for call, values in CASES:
            answer = call(*values)
            others = values[0] - 1 if call in (soonest, mean) else answer[0]
            self.assertEqual(len(answer) - 1, 0 if answer[0] < 0 else others)

    def test_nothing_is_printed_or_read(self):
        said = io.StringIO()
        refusing = mock.Mock(side_effect=AssertionError("something was read"))
        with contextlib.redirect_stdout(said), contextlib.redirect_stderr(said):
            with mock.patch("builtins.open", refusing), mock.patch("builtins.input", refusing):
                for call, values in CASES:
                    call(*values)
        self.assertEqual(said.getvalue(), "")


if __name__ == "__main__":
    unittest.main()
