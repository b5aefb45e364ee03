"""Markets: trees of nodes with prices, payouts and values.

A market is a tuple (assets, seen, nodes), a node a tuple
(parent, growth, rules, prices, payouts, values).
"""

from surehedge.errors import BadGrowth, BadName, BadNumber, BadParent, BadRule, BadSize
from surehedge.numbers import ZERO, check_shorts, compare, dot, is_short, is_whole, minus, plus, times

LETTERS = "abcdefghijklmnopqrstuvwxyz"
DIGITS = "0123456789"
RULES = ("any", "long", "short", "none")
LONGEST_NAME = 12
MOST_ASSETS = 4
MOST_SEEN = 4
MOST_NODES = 60
MOST_CHILDREN = 6


def is_name(value):
    """Tells whether the value, of whatever kind, is a name."""
    if not isinstance(value, str) or not 1 <= len(value) <= LONGEST_NAME:
        return False
    return value[0] in LETTERS and all(mark in LETTERS or mark in DIGITS for mark in value)


def check_market(market):
    """Raises the first error that is due for the market, if there is one."""
    assets, seen, nodes = market
    if not 1 <= len(assets) <= MOST_ASSETS:
        raise BadSize()
    if len(seen) > MOST_SEEN:
        raise BadSize()
    if not 1 <= len(nodes) <= MOST_NODES:
        raise BadSize()
    _check_names(assets + seen)
    for place in range(len(nodes)):
        _check_node(market, place)
    for place in range(len(nodes)):
        if len(children(market, place)) > MOST_CHILDREN:
            raise BadSize()


def _check_names(names):
    for place, name in enumerate(names):
        if not is_name(name) or name in names[:place]:
            raise BadName()


def _check_node(market, place):
    assets, seen, nodes = market
    parent, growth, rules, prices, payouts, values = nodes[place]
    if not _can_be_parent(parent, place):
        raise BadParent()
    if not is_short(growth):
        raise BadNumber()
    if compare(growth, ZERO) <= 0:
        raise BadGrowth()
    _check_rules(rules, len(assets))
    check_shorts(prices, len(assets))
    check_shorts(payouts, len(assets))
    check_shorts(values, len(seen))


def _can_be_parent(parent, place):
    if not is_whole(parent):
        return False
    if place == 0:
        return parent == -1
    return 0 <= parent < place


def _check_rules(rules, many):
    if len(rules) != many:
        raise BadSize()
    for rule in rules:
        if rule not in RULES:
            raise BadRule()


def children(market, node):
    """Returns the list of the children of the node, ascending."""
    return [place for place, row in enumerate(market[2]) if row[0] == node]


def is_leaf(market, node):
    """Tells whether the node has no children."""
    return children(market, node) == []


def path_to(market, node):
    """Returns the list of the nodes from the root to this node, both included."""
    path = [node]
    while path[-1] != 0:
        path.append(market[2][path[-1]][0])
    return path[::-1]


def leaves(market):
    """Returns the list of the leaves, ascending."""
    return [node for node in range(len(market[2])) if is_leaf(market, node)]


def inner_nodes(market):
    """Returns the list of the inner nodes, ascending."""
    return [node for node in range(len(market[2])) if not is_leaf(market, node)]


def gains(market, node):
    """Returns, for each child of the node, the list of the gains of the assets in it."""
    return [gains_in(market, node, child) for child in children(market, node)]


def gains_in(market, node, child):
    """Returns the list of the gains of the assets in this child of the node."""
    growth = market[2][node][1]
    before = market[2][node][3]
    prices = market[2][child][3]
    payouts = market[2][child][4]
    return [
        minus(plus(price, payout), times(growth, old))
        for price, payout, old in zip(prices, payouts, before)
    ]


def keeps_rules(market, node, holdings):
    """Tells whether the holdings keep the rules of the node."""
    for rule, amount in zip(market[2][node][2], holdings):
        order = compare(amount, ZERO)
        if order < 0 and rule in ("long", "none"):
            return False
        if order > 0 and rule in ("short", "none"):
            return False
    return True


def wealth_in(market, node, child, wealth, holdings):
    """Returns the wealth in a child of the node, if one has this wealth and these holdings at the node."""
    growth = market[2][node][1]
    return plus(times(growth, wealth), dot(holdings, gains_in(market, node, child)))
