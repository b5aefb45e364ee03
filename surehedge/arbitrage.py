"""Arbitrage: holdings that win at a node, and markets that are free of it."""

from surehedge.holdings import rows_for
from surehedge.markets import children, gains, gains_in, inner_nodes, is_leaf, keeps_rules
from surehedge.numbers import ZERO, compare, dot, negated, total
from surehedge.systems import solve_system
from surehedge.weights import is_weights, mean_weights, unfree_node


def win(market, child, holdings):
    """Returns the win of holdings of the parent in this child."""
    parent = market[2][child][0]
    return dot(holdings, gains_in(market, parent, child))


def wins(market, node, holdings):
    """Tells whether the node is an inner node at which the holdings, one for each asset, win."""
    if node not in inner_nodes(market) or len(holdings) != len(market[0]):
        return False
    if not keeps_rules(market, node, holdings):
        return False
    orders = [compare(win(market, child, holdings), ZERO) for child in children(market, node)]
    return min(orders) >= 0 and max(orders) > 0


def arbitrage_of(market):
    """Returns ("free", lists) with mean weights, or ("arbitrage", node, holdings) that win at the first such node."""
    node = unfree_node(market)
    if node is None:
        return ("free", [mean_weights(market, place) for place in range(len(market[2]))])
    return ("arbitrage", node, _winning(market, node))


def _winning(market, node):
    """Returns holdings that win at this node, which is not free."""
    rows = rows_for(market, node, [ZERO for _ in children(market, node)])
    factors = []
    for place in range(len(market[0])):
        factors.append(negated(total([each[place] for each in gains(market, node)])))
    rows.append((factors, "<", ZERO))
    return solve_system(len(market[0]), rows)[1]


def judge_arbitrage(market, answer):
    """Tells whether the answer for the market is right."""
    if answer[0] == "free":
        return _shows_free(market, answer[1])
    return answer[0] == "arbitrage" and wins(market, answer[1], answer[2])


def _shows_free(market, lists):
    if len(lists) != len(market[2]):
        return False
    for node, numbers in enumerate(lists):
        if is_leaf(market, node):
            if numbers != []:
                return False
        elif not is_weights(market, node, numbers, positive=True):
            return False
    return True
