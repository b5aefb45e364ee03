"""A second reading of points 50 to 62, over fractions and by the words of the document."""

from fractions import Fraction

from tests.second import children, fractions, gain_table, keeps_rules, number_of, product_of


def mass_rules_hold(market, numbers, root):
    """Tells whether the numbers fulfill point 51, with this number for the root."""
    if len(numbers) != len(market[2]) or Fraction(*numbers[0]) != root:
        return False
    numbers = fractions(numbers)
    for node, row in enumerate(market[2]):
        below = [numbers[child] for child in children(market, node)]
        if not below:
            continue
        if Fraction(*row[1]) * sum(below) != numbers[node]:
            return False
        table = gain_table(market, node)
        for asset, rule in enumerate(row[2]):
            value = sum(each * gains[asset] for each, gains in zip(below, table, strict=True))
            if not {"any": value == 0, "long": value <= 0, "short": value >= 0, "none": True}[rule]:
                return False
    return True


def is_masses(market, masses, positive=False):
    return mass_rules_hold(market, masses, 1) and (not positive or min(fractions(masses)) > 0)


def agree(quotes, masses):
    return all(
        Fraction(*bid) <= product_of(masses, payments) <= Fraction(*ask)
        for payments, bid, ask in quotes
    )


def masses_by(market, lists):
    """The masses that come of these weights of the nodes."""
    masses = [Fraction(1)]
    for place in range(1, len(market[2])):
        parent = market[2][place][0]
        weight = Fraction(*lists[parent][children(market, parent).index(place)])
        masses.append(masses[parent] * weight / Fraction(*market[2][parent][1]))
    return [number_of(each) for each in masses]


def are_holdings(market, holdings):
    if len(holdings) != len(market[2]):
        return False
    for node, each in enumerate(holdings):
        if not children(market, node):
            if each != []:
                return False
        elif len(each) != len(market[0]) or not keeps_rules(market, node, each):
            return False
    return True


def is_portfolio(market, quotes, portfolio):
    bought, sold, holdings = portfolio
    return (
        len(bought) == len(quotes) == len(sold)
        and all(each >= 0 for each in fractions(bought + sold))
        and are_holdings(market, holdings)
    )


def wealths(market, quotes, portfolio, sale=None):
    """The wealth of a portfolio; with a sale, payments and what they are sold for, beside them."""
    bought, sold, holdings = portfolio
    bought, sold = fractions(bought), fractions(sold)
    found = []
    for node, row in enumerate(market[2]):
        brought = sum(
            Fraction(*quote[0][node]) * (more - less)
            for quote, more, less in zip(quotes, bought, sold, strict=True)
        )
        if sale is not None:
            brought -= Fraction(*sale[0][node])
        if node == 0:
            wealth = sum(
                less * Fraction(*quote[1]) - more * Fraction(*quote[2])
                for quote, more, less in zip(quotes, bought, sold, strict=True)
            )
            wealth += Fraction(*sale[1]) if sale is not None else 0
        else:
            parent = row[0]
            place = children(market, parent).index(node)
            gains = gain_table(market, parent)[place]
            wealth = Fraction(*market[2][parent][1]) * found[parent]
            wealth += sum(a * b for a, b in zip(fractions(holdings[parent]), gains, strict=True))
        found.append(wealth + brought)
    return found


def at_leaves(market, numbers):
    return [each for node, each in enumerate(numbers) if not children(market, node)]


def is_sure_gain(market, quotes, portfolio):
    if not is_portfolio(market, quotes, portfolio):
        return False
    found = at_leaves(market, wealths(market, quotes, portfolio))
    return min(found) >= 0 and max(found) > 0


def is_high_evidence(market, quotes, payments, evidence):
    end, closed, masses, portfolio = evidence
    if not is_masses(market, masses, positive=closed) or min(fractions(masses)) < 0 or not agree(quotes, masses):
        return False
    if product_of(masses, payments) != Fraction(*end) or not is_portfolio(market, quotes, portfolio):
        return False
    found = at_leaves(market, wealths(market, quotes, portfolio, (payments, end)))
    return min(found) >= 0 and (closed or max(found) > 0)


def is_low_evidence(market, quotes, payments, evidence):
    end, closed, masses, portfolio = evidence
    if not is_masses(market, masses, positive=closed) or min(fractions(masses)) < 0 or not agree(quotes, masses):
        return False
    if product_of(masses, payments) != Fraction(*end) or not is_portfolio(market, quotes, portfolio):
        return False
    bought = ([(-n, d) for n, d in payments], (-end[0], end[1]))
    found = at_leaves(market, wealths(market, quotes, portfolio, bought))
    return min(found) >= 0 and (closed or max(found) > 0)


def plan_wealths(market, payments, plan):
    capital, holdings = plan
    return wealths(market, [], ([], [], holdings), (payments, capital))


def copies(market, payments, plan):
    return are_holdings(market, plan[1]) and not any(at_leaves(market, plan_wealths(market, payments, plan)))


def is_balances(market, balances):
    return mass_rules_hold(market, balances, 0)


def speak_against(market, payments, balances):
    return is_balances(market, balances) and product_of(balances, payments) > 0
