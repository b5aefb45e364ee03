"""Weights of the children of a node, under which no asset has a mean gain that its rule forbids."""

from math import lcm

from surehedge.errors import NotFree
from surehedge.markets import children, gains, inner_nodes
from surehedge.numbers import ZERO, compare, divided, dot, in_whole, number, total

ONE = (1, 1)


def is_weights(market, node, numbers, *, positive=False):
    """Tells whether the list of numbers is one of weights of the node, or of positive weights."""
    rows = gains(market, node)
    if len(numbers) != len(rows) or total(numbers) != ONE:
        return False
    least = 1 if positive else 0
    if any([compare(each, ZERO) < least for each in numbers]):
        return False
    for place, rule in enumerate(market[2][node][2]):
        mean = dot(numbers, [row[place] for row in rows])
        if not is_mean_gain(rule, compare(mean, ZERO)):
            return False
    return True


def is_mean_gain(rule, order):
    """Tells whether the mean gain of an asset with this rule can be below, at or above 0, as the order says."""
    if rule == "any":
        return order == 0
    if rule == "long":
        return order <= 0
    return rule == "none" or order >= 0


def extreme_weights(market, node):
    """Returns the list of all extreme weights of the node, ascending.

    Weights are kept as rays: lists of whole numbers from 0 on, not yet divided by their
    sum. One condition after another cuts the rays, and puts behind each one how far it is
    from the condition's border.
    """
    many = len(children(market, node))
    rays = [[1 if place == other else 0 for other in range(many)] for place in range(many)]
    for rule, factors in _conditions(market, node):
        rays = _cut(rays, rule, factors)
    lists = [ray[:many] for ray in rays]
    common = 1
    for each in lists:
        common = lcm(common, sum(each))
    lists = sorted([[part * (common // sum(each)) for part in each] for each in lists])
    return [[number(part, common) for part in each] for each in lists]


def _conditions(market, node):
    """Returns for each asset that can be held or owed its rule and its gains in whole numbers."""
    rows = gains(market, node)
    found = []
    for place, rule in enumerate(market[2][node][2]):
        if rule != "none":
            found.append((rule, in_whole([row[place] for row in rows])[0]))
    return found


def _cut(rays, rule, factors):
    """Returns the rays on the right side of the condition, and those in which edges meet its border."""
    kept = []
    below = []
    above = []
    for ray in rays:
        value = sum([factor * part for factor, part in zip(factors, ray)])
        if value == 0 or (rule == "long" and value < 0) or (rule == "short" and value > 0):
            kept.append(ray + [abs(value)])
        if value < 0:
            below.append((ray, value))
        if value > 0:
            above.append((ray, value))
    for low, under in below:
        for high, over in above:
            if _is_edge(rays, low, high):
                kept.append(_between(low, over, high, -under) + [0])
    return kept


def _is_edge(rays, low, high):
    """Tells whether no third ray is 0 wherever both of these are."""
    places = [place for place, part in enumerate(low) if part == 0 and high[place] == 0]
    for ray in rays:
        if ray != low and ray != high and all([ray[place] == 0 for place in places]):
            return False
    return True


def _between(low, many, high, others):
    """Returns the ray of so many times the one and so many times the other one."""
    mixed = [many * one + others * other for one, other in zip(low, high)]
    return in_whole([(part, 1) for part in mixed])[0]


def mean_weights(market, node):
    """Returns the mean weights of the node, or an empty list if it has no weights."""
    lists = extreme_weights(market, node)
    if lists == []:
        return []
    many = (len(lists), 1)
    return [
        divided(total([each[place] for each in lists]), many)
        for place in range(len(lists[0]))
    ]


def _is_free(market, node):
    means = mean_weights(market, node)
    return means != [] and all([compare(each, ZERO) > 0 for each in means])


def unfree_node(market):
    """Returns the place of the first node that is not free, or None."""
    for node in inner_nodes(market):
        if not _is_free(market, node):
            return node
    return None


def check_free(market):
    """Raises NotFree with the first node that is not free, if there is one."""
    node = unfree_node(market)
    if node is not None:
        raise NotFree(node)


def is_complete(market):
    """Tells whether each inner node has exactly one list of weights, and this one is positive."""
    for node in inner_nodes(market):
        if len(extreme_weights(market, node)) != 1 or not _is_free(market, node):
            return False
    return True
