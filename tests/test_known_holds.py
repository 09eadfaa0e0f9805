"""What holds for every answer of known, over many nets and all their orders, and of its arguments."""

import itertools
import unittest

from swallower.orders import known

LARGEST = 4294967295
LARGE_NETS = [
    (6, [0, 1, 1, 2, 2, 3, 3, 4, 4, 5, 5, 0]),
    (6, [0, 1, 1, 2, 2, 3, 3, 0, 1, 4, 3, 5]),
    (6, [5, 0, 5, 1, 0, 2, 1, 2, 2, 3, 3, 4, 4, 5, 1, 3, 0, 4, 2, 5]),
    (7, [0, 1, 1, 2, 2, 3, 3, 4, 0, 5, 5, 3, 0, 6]),
    (7, [0, 1, 1, 2, 2, 3, 3, 4, 4, 5, 5, 6, 6, 0, 0, 3, 2, 5, 1, 6]),
]


def pairs(net):
    return [frozenset(net[k:k + 2]) for k in range(0, len(net), 2)]


def how_far(links, start, goal, within):
    """How many steps from start to goal through places of within; None if there's no way."""
    reached = {start}
    for steps in range(8):
        if goal in reached:
            return steps
        reached = {p for p in within if p in reached or any({p, q} in links for q in reached)}
    return None


def hangs_together(n, links):
    return all(how_far(links, 0, place, range(n)) is not None for place in range(n))


def is_told_net(n, net):
    links = pairs(net)
    return (1 <= n <= 7 and len(net) % 2 == 0 and len(links) <= 10 and len(set(links)) == len(links)
            and all(len(link) == 2 for link in links) and all(place < n for place in net)
            and hangs_together(n, links))


def looks(net, home, order):
    """Of each place of order but the last: how far they go, and where they look from; None for -33."""
    links = pairs(net)
    here = home
    told = []
    for count, place in enumerate(order[:-1]):
        safe = {home, *order[:count]}
        near = [(how_far(links, here, spot, safe), spot) for spot in safe if {spot, place} in links]
        if not near:
            return None
        told.append(min(near))
        here = told[-1][1]
    return told


def expected(net, home, order):
    told = looks(net, home, order)
    if told is None:
        return [-33]
    behind = list(itertools.accumulate([far + 2 for far, spot in told]))
    return [len(order)] + (behind + (behind[-1:] or [0]) if order else [])


def orders_of(n, home):
    return [list(order) for order in itertools.permutations([place for place in range(n) if place != home])]


def nets_of(n):
    """Every net of n places."""
    links = list(itertools.combinations(range(n), 2))
    for many in range(n - 1, min(len(links), 10) + 1):
        for chosen in itertools.combinations(links, many):
            net = [place for link in chosen for place in link]
            if is_told_net(n, net):
                yield net


class Unchanging(list):
    """A list that fails the test as soon as something changes it, be it for a while."""

    def refuse(self, *arguments, **keywords):
        raise AssertionError("what is handed in was changed")

    append = extend = insert = pop = remove = clear = sort = reverse = refuse
    __setitem__ = __delitem__ = __iadd__ = __imul__ = refuse


class AllOrders(unittest.TestCase):
    def check(self, n, home, net):
        for order in orders_of(n, home):
            with self.subTest(n=n, home=home, net=net, order=order):
                answer = known(n, home, net, order)
                self.assertEqual(answer, expected(net, home, order))
                self.check_what_holds(answer, n)

    def check_what_holds(self, answer, n):
        self.assertTrue(all(type(number) is int for number in answer))
        if answer == [-33]:
            return
        self.assertEqual(answer[0], n - 1)
        behind = answer[1:]
        self.assertEqual(len(behind), n - 1)
        self.assertEqual(behind, sorted(behind))
        self.assertEqual(behind[-1:], behind[-2:-1] or [0] * len(behind[-1:]))
        looked_into = [0] + behind[:-1]
        self.assertTrue(all(late - soon >= 2 for soon, late in zip(looked_into, looked_into[1:])))

    def test_every_net_of_up_to_four_places_from_every_home(self):
        for n in range(1, 5):
            for net in nets_of(n):
                for home in range(n):
                    self.check(n, home, net)

    def test_every_net_of_five_places_from_one_home(self):
        for net in nets_of(5):
            self.check(5, 2, net)

    def test_larger_nets(self):
        for n, net in LARGE_NETS:
            self.check(n, n // 2, net)

    def test_an_order_that_can_be_followed_always_is_there(self):
        for n, net in LARGE_NETS:
            for home in range(n):
                answers = [known(n, home, net, order) for order in orders_of(n, home)]
                self.assertTrue(any(answer[0] == n - 1 for answer in answers))


class AllLists(unittest.TestCase):
    def test_every_short_net_is_taken_or_refused_as_told(self):
        for length in range(5):
            for numbers in itertools.product((0, 1, 2, 3, LARGEST), repeat=length):
                for n in (0, 1, 2, 3, LARGEST):
                    self.check_net(n, list(numbers))

    def check_net(self, n, net):
        with self.subTest(n=n, net=net):
            # With a home that isn't there, -2 says that the net is one.
            self.assertEqual(known(n, LARGEST, net, []), [-2] if is_told_net(n, net) else [-22])

    def test_every_short_order_is_taken_or_refused_as_told(self):
        net = [0, 1, 1, 2, 2, 0]
        for length in range(4):
            for order in itertools.product((0, 1, 2, 3, LARGEST), repeat=length):
                with self.subTest(order=order):
                    taken = order in ((0, 2), (2, 0))
                    self.assertEqual(known(3, 1, net, list(order)), [2, 2, 2] if taken else [-22])


class Arguments(unittest.TestCase):
    CALLS = [
        (1, 0, [], []),
        (2, 1, [1, 0], [0]),
        (5, 2, [4, 3, 1, 0, 3, 2, 2, 1], [3, 1, 0, 4]),
        (7, 0, [0, 1, 1, 2, 2, 3, 3, 4, 0, 5, 5, 3, 0, 6], [5, 1, 2, 3, 4, 6]),
        (4, 0, [2, 3, 1, 2, 0, 1], [3, 2, 1]),
        (4, 9, [2, 3, 1, 2, 0, 1], [3, 2, 1]),
        (4, 0, [2, 3, 1, 2, 0, 1], [3, 2, 2, 0]),
        (4, 0, [2, 3, 1, 2, 0, 1, 1, 0], [3, 2, 1]),
        (LARGEST, LARGEST, [LARGEST] * 24, [LARGEST] * 8),
    ]

    def test_what_is_handed_in_is_as_it_was(self):
        for n, home, net, order in self.CALLS:
            net_before = list(net)
            order_before = list(order)
            known(n, home, net, order)
            self.assertEqual(net, net_before)
            self.assertEqual(order, order_before)

    def test_what_is_handed_in_is_not_changed_for_a_while_either(self):
        for n, home, net, order in self.CALLS:
            self.assertEqual(known(n, home, Unchanging(net), Unchanging(order)), known(n, home, net, order))

    def test_a_second_call_answers_the_same(self):
        first = [known(*call) for call in self.CALLS]
        second = [known(*call) for call in reversed(self.CALLS)]
        self.assertEqual(first, list(reversed(second)))

    def test_an_answer_that_is_changed_does_not_change_the_next(self):
        for n, home, net, order in self.CALLS:
            answer = known(n, home, net, order)
            before = list(answer)
            answer.append(7)
            answer[0] = 7
            self.assertEqual(known(n, home, net, order), before)

    def test_the_answer_is_a_plain_list_of_whole_numbers(self):
        for n, home, net, order in self.CALLS:
            answer = known(n, home, net, order)
            self.assertIs(type(answer), list)
            self.assertTrue(all(type(number) is int for number in answer))

    def test_arguments_by_name(self):
        self.assertEqual(known(n=3, home=0, net=[0, 1, 1, 2], order=[1, 2]), [2, 2, 2])


if __name__ == "__main__":
    unittest.main()
