"""Nets: which lists tell one, what lies beside what, and how far it is."""

MOST_PLACES = 7
MOST_LINKS = 10


def links_of(net):
    """The links that a list of an even number of numbers tells, the lesser place of each first."""
    return [(min(net[k], net[k + 1]), max(net[k], net[k + 1])) for k in range(0, len(net), 2)]


def are_links(n, links):
    """Whether each links two different ones of n places, and no two link the same."""
    told = []
    for link in links:
        if link[0] == link[1] or link[1] >= n or link in told:
            return False
        told.append(link)
    return True


def places_beside(n, links):
    """Of each of n places, the places that a link leads to from it."""
    beside_each = [[] for place in range(n)]
    for link in links:
        beside_each[link[0]].append(link[1])
        beside_each[link[1]].append(link[0])
    return beside_each


def places_round(beside_each, inner):
    """The places beside one of inner, but those of inner, rising."""
    found = []
    for place in range(len(beside_each)):
        if place not in inner and any([other in inner for other in beside_each[place]]):
            found.append(place)
    return found


def steps_to_each(beside_each, start, allowed):
    """Of each place that can be reached from start through allowed places alone, how far it is."""
    steps = {start: 0}
    edge = [start]
    while len(edge) > 0:
        further = []
        for place in edge:
            for other in beside_each[place]:
                if other in allowed and other not in steps:
                    steps[other] = steps[place] + 1
                    further.append(other)
        edge = further
    return steps


def hang_together(n, links):
    """Whether each of n places can be reached from the first."""
    return len(steps_to_each(places_beside(n, links), 0, list(range(n)))) == n


def is_net(n, net):
    """Whether n and net tell a net."""
    # n comes first: what follows walks n places, and n may be as large as 4294967295.
    if n < 1 or n > MOST_PLACES:
        return False
    if len(net) % 2 != 0 or len(net) > 2 * MOST_LINKS:
        return False
    links = links_of(net)
    return are_links(n, links) and hang_together(n, links)
