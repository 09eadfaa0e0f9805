"""Orders in which the places of a net are looked into, and what they bring to light."""

from swallower.nets import is_net, links_of, places_beside, places_round, steps_to_each

NOT_AS_TOLD = -22
NO_SUCH_HOME = -2
NOT_BESIDE_A_SAFE_ONE = -33
TOO_MANY_TO_CHOOSE_FROM = -75

IN_AND_BACK = 2
MOST_TO_CHOOSE_FROM = 6


def refusal_of(n, home, net):
    """The refusal that a net or home that isn't one calls for, or None."""
    if not is_net(n, net):
        return NOT_AS_TOLD
    if home >= n:
        return NO_SUCH_HOME
    return None


def refusal_to_choose(n, home, net):
    """The refusal that's due where an order is to be chosen, or None."""
    refusal = refusal_of(n, home, net)
    if refusal is None and n > MOST_TO_CHOOSE_FROM:
        return TOO_MANY_TO_CHOOSE_FROM
    return refusal


def tells_all_but_home(n, home, order):
    """Whether order tells all of n places but home, each once."""
    return sorted(order) == [place for place in range(n) if place != home]


def tells_places_but_home(n, home, order):
    """Whether order tells fewer than n places, and neither home nor one that there isn't among them."""
    # A place may be told more than once; each time counts.
    return len(order) < n and all([place != home and place < n for place in order])


def place_to_look_from(beside_it, steps):
    """The nearest place of beside_it, of like ones the least, or None if steps leads to none of them."""
    near_ones = sorted([(steps[place], place) for place in beside_it if place in steps])
    if len(near_ones) == 0:
        return None
    return near_ones[0][1]


def steps_till_known(beside_each, home, order):
    """Of each place of order, behind how many steps it's known, or None if order can't be followed."""
    safe = [home]
    here = home
    behind = 0
    answer = []
    for place in order[:-1]:
        steps = steps_to_each(beside_each, here, safe)
        spot = place_to_look_from(beside_each[place], steps)
        if spot is None:
            return None
        behind = behind + steps[spot] + IN_AND_BACK
        answer.append(behind)
        safe.append(place)
        here = spot
    # The last place isn't looked into: once all others are safe, it's the one.
    if len(order) > 0:
        answer.append(behind)
    return answer


def one_place_longer(n, home, orders):
    """Each of orders with one more of n places behind it, in every way that tells none twice, and not home."""
    longer = []
    for order in orders:
        for place in range(n):
            if place != home and place not in order:
                longer.append(order + [place])
    return longer


def all_orders(n, home):
    """Every order of n places with this home."""
    orders = [[]]
    while len(orders[0]) < n - 1:
        orders = one_place_longer(n, home, orders)
    return orders


def ways_to_look(n, home, net):
    """Each order that can be followed, and beside it behind how many steps each place of it is known."""
    beside_each = places_beside(n, links_of(net))
    ways = []
    for order in all_orders(n, home):
        behind = steps_till_known(beside_each, home, order)
        if behind is not None:
            ways.append((order, behind))
    return ways


def best_answer(answers):
    """Of answers that each tell steps and then an order, that of the fewest steps, of like orders the first."""
    # Lists compare number by number: by the steps first, then by the place where two orders first differ.
    return min(answers)


def known(n, home, net, order):
    """How many places order tells, then of each behind how many steps it's known; or a refusal alone."""
    refusal = refusal_of(n, home, net)
    if refusal is not None:
        return [refusal]
    if not tells_all_but_home(n, home, order):
        return [NOT_AS_TOLD]
    answer = steps_till_known(places_beside(n, links_of(net)), home, order)
    if answer is None:
        return [NOT_BESIDE_A_SAFE_ONE]
    return [len(order)] + answer


def soonest(n, home, net):
    """Behind how many steps it's known at worst by the best order, then that order; or a refusal alone."""
    refusal = refusal_to_choose(n, home, net)
    if refusal is not None:
        return [refusal]
    return best_answer([[max(way[1], default=0)] + way[0] for way in ways_to_look(n, home, net)])


def mean(n, home, net):
    """How many steps there are all together by the best order, then that order; or a refusal alone."""
    refusal = refusal_to_choose(n, home, net)
    if refusal is not None:
        return [refusal]
    return best_answer([[sum(way[1])] + way[0] for way in ways_to_look(n, home, net)])


def homes(n, net):
    """How many places there are, then of each, were it home, what soonest tells at worst; or a refusal alone."""
    # Every net has a place 0, so with it as home nothing but n and net can be refused.
    refusal = refusal_to_choose(n, 0, net)
    if refusal is not None:
        return [refusal]
    return [n] + [soonest(n, home, net)[0] for home in range(n)]


def beside(n, home, net, order):
    """How many others are beside home or one that order tells, then they, rising; or a refusal alone."""
    refusal = refusal_of(n, home, net)
    if refusal is not None:
        return [refusal]
    if not tells_places_but_home(n, home, order):
        return [NOT_AS_TOLD]
    others = places_round(places_beside(n, links_of(net)), [home] + order)
    return [len(others)] + others
