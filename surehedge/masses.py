"""What masses and balances have in common: numbers of the nodes that fit the tree and the rules."""

from surehedge.markets import children, gains, inner_nodes
from surehedge.numbers import ZERO, compare, dot, times, total
from surehedge.weights import is_mean_gain


def fit_together(market, numbers, root):
    """Tells whether the list has a number for each node, this one for the root, as masses have them."""
    if len(numbers) != len(market[2]) or numbers[0] != root:
        return False
    return all([_fit_at(market, numbers, node) for node in inner_nodes(market)])


def _fit_at(market, numbers, node):
    """Tells whether the number of the node and those of its children belong together."""
    below = [numbers[child] for child in children(market, node)]
    if times(market[2][node][1], total(below)) != numbers[node]:
        return False
    rows = gains(market, node)
    for asset, rule in enumerate(market[2][node][2]):
        gain = dot(below, [row[asset] for row in rows])
        if not is_mean_gain(rule, compare(gain, ZERO)):
            return False
    return True
