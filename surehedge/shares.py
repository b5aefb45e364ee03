"""Masses told by shares: the share of a leaf is its mass times the growths on its way.

The shares of the leaves are together the mass of the root, and they tell all masses. What
masses have to fulfill is told by rows over the shares; what the rows are multiplied by, to
show something about all masses, is a portfolio.
"""

from surehedge.markets import children, gains_in, is_leaf, leaves, path_to
from surehedge.numbers import ZERO, all_negated, divided, minus, negated, plus, times, total

ONE = (1, 1)
SIGNS = {"any": (1, -1), "long": (1,), "short": (-1,), "none": ()}


def growths_ahead(market):
    """Returns for each node the product of the growths on the way to it, its own one not counted."""
    found = [ONE]
    for row in market[2][1:]:
        found.append(times(found[row[0]], market[2][row[0]][1]))
    return found


def worths(market, payments):
    """Returns for each leaf the sum of the payments on its way, each divided by the growths ahead of it."""
    early = [divided(payment, growth) for payment, growth in zip(payments, growths_ahead(market))]
    return [total([early[node] for node in path_to(market, leaf)]) for leaf in leaves(market)]


def masses_from(market, shares):
    """Returns the masses of all nodes, from the shares of the leaves."""
    sums = [ZERO for _ in market[2]]
    for leaf, share in zip(leaves(market), shares):
        for node in path_to(market, leaf):
            sums[node] = plus(sums[node], share)
    return [divided(each, growth) for each, growth in zip(sums, growths_ahead(market))]


def rows_and_bounds(market, quotes):
    """Returns the rows over the shares, and what each one is at most, for masses that agree with the quotes.

    There are first the rows of the assets, then two for each quote, then two for all shares.
    """
    rows = [_gains_on_ways(market, side) for side in _sides(market)]
    bounds = [ZERO for _ in rows]
    for payments, bid, ask in quotes:
        worth = worths(market, payments)
        rows.extend([worth, all_negated(worth)])
        bounds.extend([ask, negated(bid)])
    whole = [ONE for _ in leaves(market)]
    rows.extend([whole, all_negated(whole)])
    bounds.extend([ONE, negated(ONE)])
    return (rows, bounds)


def _sides(market):
    """Returns the tuples (node, asset, sign): the sign is 1 where the asset may be held, -1 where it may be owed."""
    found = []
    for node, row in enumerate(market[2]):
        if not is_leaf(market, node):
            for asset, rule in enumerate(row[2]):
                found.extend([(node, asset, sign) for sign in SIGNS[rule]])
    return found


def _gains_on_ways(market, side):
    """Returns for each leaf what one of the asset, held or owed at the node, gains on the way to it."""
    node, asset, sign = side
    gained = {}
    for child in children(market, node):
        gained[child] = times((sign, 1), gains_in(market, node, child)[asset])
    return [
        total([gained[place] for place in path_to(market, leaf) if place in gained])
        for leaf in leaves(market)
    ]


def portfolio_from(market, quotes, multipliers):
    """Returns the portfolio that these multipliers of the rows are."""
    many = len(_sides(market))
    of_quotes = multipliers[many:many + 2 * len(quotes)]
    return (of_quotes[::2], of_quotes[1::2], holdings_from(market, multipliers[:many]))


def holdings_from(market, multipliers):
    """Returns for each node the holdings that these multipliers of the rows of the assets are."""
    grown = growths_ahead(market)
    held = [[] if is_leaf(market, node) else [ZERO for _ in market[0]] for node in range(len(market[2]))]
    for (node, asset, sign), each in zip(_sides(market), multipliers):
        # In the rows a gain stands as it is, but wealth there is divided by the growths ahead.
        amount = times(each, times(grown[node], market[2][node][1]))
        held[node][asset] = plus(held[node][asset], times((sign, 1), amount))
    return held


def capital_from(multipliers):
    """Returns the capital at the root that the multipliers of the two rows for all shares are."""
    return minus(multipliers[-2], multipliers[-1])
