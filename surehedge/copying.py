"""Copies: plans that copy payments, and balances that speak against them.

A plan is a tuple (capital, holdings).
"""

from surehedge.holdings import all_can_be_held, wealths_with
from surehedge.markets import leaves
from surehedge.masses import fit_together
from surehedge.numbers import ZERO, all_negated, compare, dot, minus, negated, total
from surehedge.prices import price_ends
from surehedge.quotes import value_of
from surehedge.shares import ONE, capital_from, holdings_from, masses_from, rows_and_bounds, worths
from surehedge.simplex import solved
from surehedge.weights import check_free


def opposite(payments):
    """Returns the list of the payments times -1."""
    return all_negated(payments)


def plan_wealths(market, payments, plan):
    """Returns the wealth of the plan beside the payments at each node."""
    capital, holdings = plan
    return wealths_with(market, capital, holdings, opposite(payments))


def copies(market, payments, plan):
    """Tells whether it is a plan that copies the payments."""
    if not all_can_be_held(market, plan[1]):
        return False
    found = plan_wealths(market, payments, plan)
    return all([found[leaf] == ZERO for leaf in leaves(market)])


def is_balances(market, balances):
    """Tells whether the list of numbers is one of balances."""
    return fit_together(market, balances, ZERO)


def speak_against(market, payments, balances):
    """Tells whether the list is one of balances that speak against the payments."""
    return is_balances(market, balances) and compare(value_of(balances, payments), ZERO) > 0


def copy_of(market, payments):
    """Returns a plan that copies the payments, or None if there is none."""
    shares, multipliers = _dearest(market, payments)
    if dot(shares, worths(market, payments)) != ZERO:
        return None
    # The last multiplier is that of the limit, which nothing has reached.
    return (capital_from(multipliers[:-1]), holdings_from(market, multipliers))


def against(market, payments):
    """Returns balances that speak against the payments, or None if there are none."""
    shares, _ = _dearest(market, payments)
    if dot(shares, worths(market, payments)) == ZERO:
        return None
    return masses_from(market, shares)


def _dearest(market, payments):
    """Returns the shares of balances that give the payments the greatest value up to 1, and what shows it.

    Shares of balances are numbers from 0 on, less a shift that all of them have. If the
    value can only be 0, the multipliers mix the rows to the very worths of the payments.
    """
    rows, bounds = rows_and_bounds(market, [])
    aim = _with_shift(worths(market, payments))
    sides = [_with_shift(row) for row in rows] + [aim]
    _, point, multipliers = solved(sides, [ZERO for _ in bounds] + [ONE], aim)
    return ([minus(each, point[-1]) for each in point[:-1]], multipliers)


def _with_shift(row):
    return row + [negated(total(row))]


def copied_price(market, payments):
    """Returns the copied price of the payments, or None if they have none; raises NotFree."""
    check_free(market)
    low, _, high, _ = price_ends(market, [], payments)
    return low if low == high else None


def copies_everything(market):
    """Tells whether for all payments a plan copies them."""
    return uncopied(market) is None


def uncopied(market):
    """Returns payments that no plan copies, or None if there are none.

    Payments of 1 at a single leaf are enough to look at: sums of plans that copy them, with
    some capital that is only lent or borrowed, copy all payments.
    """
    for leaf in leaves(market):
        payments = [ONE if node == leaf else ZERO for node in range(len(market[2]))]
        if against(market, payments) is not None:
            return payments
    return None
