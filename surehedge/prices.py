"""Prices: the numbers at which payments can be quoted beside other quotes, and evidence of their ends.

Evidence is a tuple (end, closed, masses, portfolio).
"""

from surehedge.errors import NotFreeTogether
from surehedge.numbers import ZERO, all_negated, divided, dot, minus, negated
from surehedge.quotes import (
    agree,
    are_from_0,
    are_positive,
    is_masses,
    is_portfolio,
    masses_or_gain,
    orders_at_leaves,
    positive_masses,
    value_of,
)
from surehedge.shares import ONE, masses_from, portfolio_from, rows_and_bounds, worths
from surehedge.simplex import solved


def is_price(market, quotes, payments, price):
    """Tells whether the number is a price of the payments beside the market and the quotes."""
    return positive_masses(market, quotes + [(payments, price, price)]) is not None


def price_ends(market, quotes, payments):
    """Returns (low, is_low_closed, high, is_high_closed); raises NotFreeTogether."""
    _check_free_together(market, quotes)
    low, is_low_closed, _, _ = _evidence_of_low(market, quotes, payments)
    high, is_high_closed, _, _ = _evidence_of_high(market, quotes, payments)
    return (low, is_low_closed, high, is_high_closed)


def high_evidence(market, quotes, payments):
    """Returns evidence of the high end; raises NotFreeTogether."""
    _check_free_together(market, quotes)
    return _evidence_of_high(market, quotes, payments)


def low_evidence(market, quotes, payments):
    """Returns evidence of the low end; raises NotFreeTogether."""
    _check_free_together(market, quotes)
    return _evidence_of_low(market, quotes, payments)


def _check_free_together(market, quotes):
    if positive_masses(market, quotes) is None:
        raise NotFreeTogether()


def _evidence_of_high(market, quotes, payments):
    worth = worths(market, payments)
    rows, bounds = rows_and_bounds(market, quotes)
    # There is always a best point, as all shares together are 1.
    _, shares, multipliers = solved(rows, bounds, worth)
    end = dot(worth, shares)
    word, found = masses_or_gain(market, quotes + [(payments, end, end)])
    if word == "masses":
        return (end, True, found, portfolio_from(market, quotes, multipliers))
    return (end, False, masses_from(market, shares), _with_one_sale(found))


def _evidence_of_low(market, quotes, payments):
    return _turned(_evidence_of_high(market, quotes, all_negated(payments)))


def _turned(evidence):
    """Returns the evidence of the low end of payments from that of the high end of their opposite, or back."""
    end, closed, masses, portfolio = evidence
    return (negated(end), closed, masses, portfolio)


def _with_one_sale(gain):
    """Returns what goes along with each sale of the last quote in this sure gain.

    At an open high end the last quote is sold: there is no sure gain without it, and none
    in which it is bought, as no price is above the end.
    """
    bought, sold, holdings = gain
    many = minus(sold[-1], bought[-1])
    return (
        _in_parts(bought[:-1], many),
        _in_parts(sold[:-1], many),
        [_in_parts(each, many) for each in holdings],
    )


def _in_parts(numbers, many):
    return [divided(each, many) for each in numbers]


def is_high_evidence(market, quotes, payments, *, evidence):
    """Tells whether it is evidence of the high end."""
    end, closed, masses, portfolio = evidence
    if not is_masses(market, masses) or not agree(quotes, masses) or value_of(masses, payments) != end:
        return False
    if not are_from_0(masses) or (closed and not are_positive(masses)):
        return False
    if not is_portfolio(market, quotes, portfolio):
        return False
    bought, sold, holdings = portfolio
    orders = orders_at_leaves(
        market,
        quotes + [(payments, end, end)],
        (bought + [ZERO], sold + [ONE], holdings),
    )
    return min(orders) >= 0 and (closed or max(orders) > 0)


def is_low_evidence(market, quotes, payments, *, evidence):
    """Tells whether it is evidence of the low end."""
    return is_high_evidence(market, quotes, all_negated(payments), evidence=_turned(evidence))
