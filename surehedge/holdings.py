"""Holdings of nodes: which ones can be held, systems for them, and the wealth that they make."""

from surehedge.markets import gains, is_leaf, keeps_rules, wealth_in
from surehedge.numbers import ZERO, all_negated, negated, plus

ONE = (1, 1)


def rows_for(market, node, least):
    """Returns the rows for holdings that keep the rules and win in each child at least the number of the list."""
    rows = []
    for place, rule in enumerate(market[2][node][2]):
        if rule != "any":
            rows.append(_rule_row(len(market[0]), place, rule))
    for each, bound in zip(gains(market, node), least):
        rows.append((all_negated(each), "<=", negated(bound)))
    return rows


def _rule_row(many, place, rule):
    factors = [ZERO for _ in range(many)]
    factors[place] = (-1, 1) if rule == "long" else ONE
    return (factors, "=" if rule == "none" else "<=", ZERO)


def can_be_held(market, node, holdings):
    """Tells whether the list is empty at a leaf, and otherwise has a number for each asset and keeps the rules."""
    if is_leaf(market, node):
        return holdings == []
    return len(holdings) == len(market[0]) and keeps_rules(market, node, holdings)


def all_can_be_held(market, lists):
    """Tells whether there is a list for each node that can be held there."""
    if len(lists) != len(market[2]):
        return False
    return all([can_be_held(market, node, each) for node, each in enumerate(lists)])


def wealths_with(market, capital, lists, added):
    """Returns the wealth at each node, with this capital, the holdings of each node and what is added at each node."""
    found = [plus(capital, added[0])]
    for node in range(1, len(market[2])):
        parent = market[2][node][0]
        grown = wealth_in(market, parent, node, found[parent], lists[parent])
        found.append(plus(grown, added[node]))
    return found
