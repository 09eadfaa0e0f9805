"""What several tests need: nets and orders to try, a second reckoning of known, and unchanging lists."""

import itertools

LARGEST = 4294967295
LINE_OF_3 = [0, 1, 1, 2]
LINE_OF_4 = LINE_OF_3 + [2, 3]
LINE_OF_5 = LINE_OF_4 + [3, 4]
LINE_OF_6 = LINE_OF_5 + [4, 5]
LINE_OF_7 = LINE_OF_6 + [5, 6]
LINE_OF_8 = LINE_OF_7 + [6, 7]
RING_OF_4 = LINE_OF_4 + [3, 0]
RING_OF_5 = LINE_OF_5 + [4, 0]
RING_OF_6 = LINE_OF_6 + [5, 0]
RING_OF_7 = LINE_OF_7 + [6, 0]
STAR_OF_4_ROUND_3 = [0, 3, 1, 3, 2, 3]
STAR_OF_5 = [0, 1, 0, 2, 0, 3, 0, 4]
STAR_OF_6 = STAR_OF_5 + [0, 5]
ALL_LINKS_OF_3 = [0, 1, 1, 2, 2, 0]
ALL_LINKS_OF_4 = [0, 1, 0, 2, 0, 3, 1, 2, 1, 3, 2, 3]
# Ten links, as many as a net may have.
ALL_LINKS_OF_5 = [0, 1, 0, 2, 0, 3, 0, 4, 1, 2, 1, 3, 1, 4, 2, 3, 2, 4, 3, 4]
LARGE_NETS = [
    (6, [0, 1, 1, 2, 2, 3, 3, 4, 4, 5, 5, 0]),
    (6, [0, 1, 1, 2, 2, 3, 3, 0, 1, 4, 3, 5]),
    (6, [5, 0, 5, 1, 0, 2, 1, 2, 2, 3, 3, 4, 4, 5, 1, 3, 0, 4, 2, 5]),
    (7, [0, 1, 1, 2, 2, 3, 3, 4, 0, 5, 5, 3, 0, 6]),
    (7, [0, 1, 1, 2, 2, 3, 3, 4, 4, 5, 5, 6, 6, 0, 0, 3, 2, 5, 1, 6]),
]
NETS_OF_FIVE = [
    LINE_OF_5, RING_OF_5, STAR_OF_5, ALL_LINKS_OF_5,
    [0, 1, 0, 2, 0, 3, 1, 4],
    [4, 0, 4, 1, 4, 2, 2, 3],
    [0, 1, 1, 2, 2, 3, 3, 0, 3, 4],
    [0, 1, 1, 2, 2, 0, 2, 3, 3, 4],
    [0, 2, 0, 3, 0, 4, 1, 2, 1, 3, 1, 4],
]
NETS_OF_SIX = [net for n, net in LARGE_NETS if n == 6] + [
    [0, 1, 1, 2, 2, 3, 3, 4, 4, 5],
    [5, 0, 5, 1, 5, 2, 5, 3, 5, 4],
    [0, 3, 1, 3, 1, 4, 2, 4, 3, 5],
    [0, 1, 0, 2, 0, 3, 1, 4, 1, 5],
    [0, 3, 0, 4, 1, 2, 2, 3, 2, 4, 4, 5],
    [0, 1, 1, 2, 2, 3, 3, 4, 0, 5, 5, 3],
    [0, 1, 1, 2, 2, 0, 3, 4, 4, 5, 5, 3, 0, 3],
    [0, 3, 0, 4, 0, 5, 1, 3, 1, 4, 1, 5, 2, 3, 2, 4, 2, 5],
]
# What tells no net, as n and net, by what is wrong with it; each has that one fault alone where that can be.
NOT_NETS = {
    "no place": [(0, []), (0, [0, 1])],
    "more than seven places": [
        (8, LINE_OF_8), (9, LINE_OF_8 + [7, 8]), (LARGEST, []), (LARGEST, LINE_OF_4), (LARGEST, [0, LARGEST]),
    ],
    "an odd number of numbers": [
        (1, [0]), (2, [0, 1, 0]), (4, LINE_OF_4 + [0]), (4, LINE_OF_4[:-1]), (4, LINE_OF_4 + [LARGEST]),
        (7, LINE_OF_7 + [0]),
    ],
    "a number that no place is": [
        (1, [0, 1]), (3, LINE_OF_4), (4, LINE_OF_4 + [3, 4]), (4, LINE_OF_4 + [4, 3]),
        (4, LINE_OF_4 + [0, LARGEST]), (4, [LARGEST, 0] + LINE_OF_4), (4, LINE_OF_4 + [LARGEST - 1, LARGEST]),
        (7, LINE_OF_7 + [0, 7]), (7, LINE_OF_7 + [LARGEST, 6]),
    ],
    "a link from a place to itself": [
        (1, [0, 0]), (4, LINE_OF_4 + [3, 3]), (4, [0, 0] + LINE_OF_4), (4, LINE_OF_4 + [LARGEST, LARGEST]),
        (7, LINE_OF_7 + [6, 6]),
    ],
    "a link twice in the same direction": [
        (2, [0, 1, 0, 1]), (4, LINE_OF_4 + [0, 1]), (4, LINE_OF_4 + [0, LARGEST, 0, LARGEST]),
        (7, LINE_OF_7 + [2, 3]),
    ],
    "a link twice in the other direction": [
        (2, [0, 1, 1, 0]), (4, LINE_OF_4 + [3, 2]), (4, LINE_OF_4 + [0, LARGEST, LARGEST, 0]),
        (7, LINE_OF_7 + [3, 2]),
    ],
    "more than ten links": [
        (6, ALL_LINKS_OF_5 + [0, 5]), (6, ALL_LINKS_OF_5 + [0, 5, 5, 1]), (7, ALL_LINKS_OF_5 + [0, 5, 0, 6]),
        (4, [LARGEST] * 22), (4, LINE_OF_4 + [LARGEST] * 18),
    ],
    "places that don't all hang together": [
        (2, []), (6, []), (7, []), (3, [0, 1]), (5, LINE_OF_4), (4, [0, 1, 1, 2, 2, 0]), (4, [1, 2, 2, 3, 3, 1]),
        (4, [0, 1, 2, 3]), (6, [0, 1, 1, 2, 2, 0, 3, 4, 4, 5, 5, 3]), (7, LINE_OF_6),
    ],
    "several faults": [
        (0, [LARGEST]), (LARGEST, [LARGEST] * 24), (LARGEST, [LARGEST] * 23), (7, [LARGEST] * 24),
        (4, [0, 0, 0, 1, 1, 0, 3]),
    ],
}


def pairs(net):
    return [frozenset(net[k:k + 2]) for k in range(0, len(net), 2)]


def how_far(links, start, goal, within):
    """How many steps from start to goal through places of within; None if there's no way."""
    reached = {start}
    for steps in range(8):
        if goal in reached:
            return steps
        reached = {p for p in within if p in reached or any({p, q} in links for q in reached)}
    return None


def hangs_together(n, links):
    return all(how_far(links, 0, place, range(n)) is not None for place in range(n))


def is_told_net(n, net):
    links = pairs(net)
    return (1 <= n <= 7 and len(net) % 2 == 0 and len(links) <= 10 and len(set(links)) == len(links)
            and all(len(link) == 2 for link in links) and all(place < n for place in net)
            and hangs_together(n, links))


def looks(net, home, order):
    """Of each place of order but the last: how far they go, and where they look from; None for -33."""
    links = pairs(net)
    here = home
    told = []
    for count, place in enumerate(order[:-1]):
        safe = {home, *order[:count]}
        near = [(how_far(links, here, spot, safe), spot) for spot in safe if {spot, place} in links]
        if not near:
            return None
        told.append(min(near))
        here = told[-1][1]
    return told


def expected(net, home, order):
    told = looks(net, home, order)
    if told is None:
        return [-33]
    behind = list(itertools.accumulate([far + 2 for far, spot in told]))
    return [len(order)] + (behind + (behind[-1:] or [0]) if order else [])


def orders_of(n, home):
    return [list(order) for order in itertools.permutations([place for place in range(n) if place != home])]


def nets_of(n):
    """Every net of n places."""
    links = list(itertools.combinations(range(n), 2))
    for many in range(n - 1, min(len(links), 10) + 1):
        for chosen in itertools.combinations(links, many):
            net = [place for link in chosen for place in link]
            if is_told_net(n, net):
                yield net


def small_nets_with_homes():
    """Every net of up to four places with every home, and every net of five with home 2: n, home, net."""
    for n in range(1, 5):
        for net in nets_of(n):
            for home in range(n):
                yield n, home, net
    for net in nets_of(5):
        yield 5, 2, net


def all_short_lists():
    """Every list of up to four numbers, be it a net or not, with several n: n, net."""
    for length in range(5):
        for numbers in itertools.product((0, 1, 2, 3, LARGEST), repeat=length):
            for n in (0, 1, 2, 3, LARGEST):
                yield n, list(numbers)


class Unchanging(list):
    """A list that fails the test as soon as something changes it, be it for a while."""

    def refuse(self, *arguments, **keywords):
        raise AssertionError("what is handed in was changed")

    append = extend = insert = pop = remove = clear = sort = reverse = refuse
    __setitem__ = __delitem__ = __iadd__ = __imul__ = refuse
