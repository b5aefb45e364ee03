"""Quotes: masses that agree with them, portfolios, and sure gains.

A quote is a tuple (payments, bid, ask), a portfolio a tuple (bought, sold, holdings).
"""

from surehedge.holdings import all_can_be_held, wealths_with
from surehedge.markets import leaves
from surehedge.masses import fit_together
from surehedge.numbers import ZERO, compare, dot, minus, plus, times, total
from surehedge.shares import ONE, masses_from, portfolio_from, rows_and_bounds
from surehedge.simplex import solved


def is_masses(market, masses):
    """Tells whether the list of numbers is one of masses; these can be below 0."""
    return fit_together(market, masses, ONE)


def are_from_0(numbers):
    """Tells whether no number is less than 0."""
    return all([compare(each, ZERO) >= 0 for each in numbers])


def are_positive(masses):
    """Tells whether all masses are more than 0."""
    return all([compare(each, ZERO) > 0 for each in masses])


def value_of(masses, payments):
    """Returns the value of the payments under the masses."""
    return dot(masses, payments)


def agree(quotes, masses):
    """Tells whether, for each quote, the value of its payments is at least the bid and at most the ask."""
    for payments, bid, ask in quotes:
        value = value_of(masses, payments)
        if compare(value, bid) < 0 or compare(value, ask) > 0:
            return False
    return True


def is_portfolio(market, quotes, portfolio):
    """Tells whether it is a portfolio."""
    bought, sold, holdings = portfolio
    if len(bought) != len(quotes) or len(sold) != len(quotes):
        return False
    return are_from_0(bought + sold) and all_can_be_held(market, holdings)


def wealths(market, quotes, portfolio):
    """Returns the wealth of the portfolio at each node."""
    bought, sold, holdings = portfolio
    bids = [quote[1] for quote in quotes]
    asks = [quote[2] for quote in quotes]
    capital = minus(dot(sold, bids), dot(bought, asks))
    return wealths_with(market, capital, holdings, _brought(market, quotes, portfolio))


def _brought(market, quotes, portfolio):
    """Returns what the quotes bring at each node."""
    kept = [minus(more, less) for more, less in zip(portfolio[0], portfolio[1])]
    return [
        total([times(many, quote[0][node]) for many, quote in zip(kept, quotes)])
        for node in range(len(market[2]))
    ]


def orders_at_leaves(market, quotes, portfolio):
    """Returns for each leaf -1, 0 or 1: the wealth of the portfolio there is below 0, 0 or above."""
    found = wealths(market, quotes, portfolio)
    return [compare(found[leaf], ZERO) for leaf in leaves(market)]


def is_sure_gain(market, quotes, portfolio):
    """Tells whether it is a portfolio with which nothing can be lost, and something won at some leaf."""
    if not is_portfolio(market, quotes, portfolio):
        return False
    orders = orders_at_leaves(market, quotes, portfolio)
    return min(orders) >= 0 and max(orders) > 0


def positive_masses(market, quotes):
    """Returns positive masses that agree with the quotes, or None if there are none."""
    word, masses = masses_or_gain(market, quotes)
    return masses if word == "masses" else None


def sure_gain(market, quotes):
    """Returns a sure gain, or None if there is none."""
    word, portfolio = masses_or_gain(market, quotes)
    return portfolio if word == "gain" else None


def masses_or_gain(market, quotes):
    """Returns ("masses", masses), positive ones that agree with the quotes, or ("gain", portfolio).

    Each share is a gap and a part from 0 on, and the gap is made as great as it can be.
    Where it cannot be more than 0, the multipliers of the rows show it: they are a sure gain.
    """
    rows, bounds = rows_and_bounds(market, quotes)
    aim = [ZERO for _ in leaves(market)] + [ONE]
    answer = solved([row + [total(row)] for row in rows], bounds, aim)
    if answer[0] == "none" or answer[1][-1] == ZERO:
        return ("gain", portfolio_from(market, quotes, answer[-1]))
    gap = answer[1][-1]
    return ("masses", masses_from(market, [plus(part, gap) for part in answer[1][:-1]]))
