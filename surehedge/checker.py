"""Claims about a market, and papers that show that they are true."""

from surehedge.arbitrage import judge_arbitrage, wins
from surehedge.capital import capital
from surehedge.copying import copies, speak_against
from surehedge.fresh import fresh
from surehedge.numbers import compare, dot, times
from surehedge.plans import best_plan, is_plan, needs
from surehedge.quotes import agree, are_positive, is_masses, is_sure_gain, masses_or_gain, value_of
from surehedge.refuting import best_refutation, is_refutation, shown
from surehedge.steps import cost_of, covers
from surehedge.weights import check_free, is_weights

OPPOSITES = {
    "covered": "uncovered",
    "uncovered": "covered",
    "kept": "short",
    "short": "kept",
    "quoted": "gain",
    "gain": "quoted",
    "price": "noprice",
    "noprice": "price",
}


def check(market, claim, paper):
    """Tells whether the paper is one for the claim."""
    shows = CHECKS[claim[0]]
    return shows(market, claim, paper)


def _shows_free(market, claim, paper):
    return judge_arbitrage(market, (claim[0], paper))


def _shows_arbitrage(market, claim, paper):
    return wins(market, claim[1], paper)


def _shows_covered(market, claim, paper):
    _, node, values, wealth = claim
    return len(paper) == len(market[0]) and covers(market, node, values, wealth=wealth, holdings=paper)


def _shows_uncovered(market, claim, paper):
    _, node, values, wealth = claim
    if not is_weights(market, node, paper):
        return False
    return compare(dot(paper, values), times(market[2][node][1], wealth)) > 0


def _shows_kept(market, claim, paper):
    _, book, wealth = claim
    return is_plan(market, book, paper) and compare(needs(market, book, paper)[0], wealth) <= 0


def _shows_short(market, claim, paper):
    _, book, wealth = claim
    return is_refutation(market, book, paper) and compare(shown(market, book, paper)[0], wealth) > 0


def _shows_quoted(market, claim, paper):
    return is_masses(market, paper) and are_positive(paper) and agree(claim[1], paper)


def _shows_gain(market, claim, paper):
    return is_sure_gain(market, claim[1], paper)


def _shows_price(market, claim, paper):
    _, quotes, payments, price = claim
    return _shows_quoted(market, ("quoted", quotes), paper) and value_of(paper, payments) == price


def _shows_no_price(market, claim, paper):
    return is_sure_gain(market, _quotes_with_price(claim), paper)


def _quotes_with_price(claim):
    _, quotes, payments, price = claim
    return quotes + [(payments, price, price)]


def _shows_copied(market, claim, paper):
    _, payments, wealth = claim
    return copies(market, payments, (wealth, paper))


def _shows_uncopied(market, claim, paper):
    return speak_against(market, claim[1], paper)


CHECKS = {
    "free": _shows_free,
    "arbitrage": _shows_arbitrage,
    "covered": _shows_covered,
    "uncovered": _shows_uncovered,
    "kept": _shows_kept,
    "short": _shows_short,
    "quoted": _shows_quoted,
    "gain": _shows_gain,
    "price": _shows_price,
    "noprice": _shows_no_price,
    "copied": _shows_copied,
    "uncopied": _shows_uncopied,
}


def opposite_claim(claim):
    """Returns the opposite claim of one that has an opposite."""
    return (OPPOSITES[claim[0]],) + fresh(claim[1:])


def paper_of(market, claim):
    """Returns the claim or its opposite, and a paper for it; raises NotFree."""
    check_free(market)
    word = claim[0]
    if word in ("covered", "uncovered"):
        found = _paper_of_step(market, claim)
    elif word in ("kept", "short"):
        found = _paper_of_book(market, claim)
    elif word in ("quoted", "gain"):
        found = _paper_of_quotes(market, claim[1], ("quoted", "gain"))
    else:
        found = _paper_of_quotes(market, _quotes_with_price(claim), ("price", "noprice"))
    told, paper = found
    return (fresh(claim) if told == word else opposite_claim(claim), paper)


def _paper_of_step(market, claim):
    """Returns "covered" or "uncovered", and what shows it."""
    _, node, values, wealth = claim
    cost, numbers, holdings = cost_of(market, node, values)
    if compare(wealth, cost) >= 0:
        return ("covered", holdings)
    return ("uncovered", numbers)


def _paper_of_book(market, claim):
    """Returns "kept" or "short", and what shows it."""
    _, book, wealth = claim
    if compare(wealth, capital(market, book)) >= 0:
        return ("kept", best_plan(market, book))
    return ("short", best_refutation(market, book))


def _paper_of_quotes(market, quotes, words):
    """Returns the first one of the words if there are masses, otherwise the second one, and what shows it."""
    word, paper = masses_or_gain(market, quotes)
    return (words[0] if word == "masses" else words[1], paper)
