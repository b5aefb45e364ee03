"""Systems whose variables are the holdings of a node."""

from surehedge.markets import gains
from surehedge.numbers import ZERO, all_negated, negated

ONE = (1, 1)


def rows_for(market, node, least):
    """Returns the rows for holdings that keep the rules and win in each child at least the number of the list."""
    rows = []
    for place, rule in enumerate(market[2][node][2]):
        if rule != "any":
            rows.append(_rule_row(len(market[0]), place, rule))
    for each, bound in zip(gains(market, node), least):
        rows.append((all_negated(each), "<=", negated(bound)))
    return rows


def _rule_row(many, place, rule):
    factors = [ZERO for _ in range(many)]
    factors[place] = (-1, 1) if rule == "long" else ONE
    return (factors, "=" if rule == "none" else "<=", ZERO)
