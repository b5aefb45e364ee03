"""One step: the least wealth that covers values in the children of a node, and loans on them.

A paper is a tuple (cost, numbers, holdings) or (loan, numbers, holdings).
"""

from surehedge.errors import NoWeights
from surehedge.holdings import rows_for
from surehedge.markets import children, keeps_rules, wealth_in
from surehedge.numbers import all_negated, compare, divided, dot, minus, negated, times
from surehedge.systems import solve_system
from surehedge.weights import extreme_weights, is_weights


def covers(market, node, values, *, wealth, holdings):
    """Tells whether the wealth and the holdings cover the values."""
    if not keeps_rules(market, node, holdings):
        return False
    for child, value in zip(children(market, node), values):
        if compare(wealth_in(market, node, child, wealth, holdings), value) < 0:
            return False
    return True


def costliest(lists, values):
    """Returns the first one of these lists of weights that have the greatest mean of the values."""
    best = lists[0]
    most = dot(best, values)
    for each in lists:
        mean = dot(each, values)
        if compare(mean, most) > 0:
            best = each
            most = mean
    return best


def cost_under(market, node, numbers, values):
    """Returns the mean of the values under these weights, divided by the growth of the node."""
    return divided(dot(numbers, values), market[2][node][1])


def cost_of(market, node, values):
    """Returns a right cost paper for the values; raises NoWeights if the node has no weights."""
    lists = extreme_weights(market, node)
    if lists == []:
        raise NoWeights(node)
    numbers = costliest(lists, values)
    cost = cost_under(market, node, numbers, values)
    return (cost, numbers, covering(market, node, values, cost))


def covering(market, node, values, wealth):
    """Returns holdings that cover the values with the wealth, which is not less than their cost."""
    grown = times(market[2][node][1], wealth)
    least = [minus(value, grown) for value in values]
    return solve_system(len(market[0]), rows_for(market, node, least))[1]


def loan_on(market, node, values):
    """Returns a right loan paper for the values; raises NoWeights if the node has no weights."""
    return _turned(cost_of(market, node, all_negated(values)))


def _turned(paper):
    """Returns the loan paper of a cost paper for the opposite values, or the other way round."""
    return (negated(paper[0]), paper[1], paper[2])


def judge_cost(market, node, values, paper):
    """Tells whether the cost paper for the values is right."""
    cost, numbers, holdings = paper
    if not is_weights(market, node, numbers) or cost_under(market, node, numbers, values) != cost:
        return False
    if len(holdings) != len(market[0]):
        return False
    return covers(market, node, values, wealth=cost, holdings=holdings)


def judge_loan(market, node, values, paper):
    """Tells whether the loan paper for the values is right."""
    return judge_cost(market, node, all_negated(values), _turned(paper))
