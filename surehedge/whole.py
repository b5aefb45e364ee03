"""The whole: what a book saves beside its contracts alone, and the moves that matter in its games."""

from surehedge.capital import capital, game_capital, rests_behind
from surehedge.games import reached
from surehedge.numbers import ZERO, compare, minus, total
from surehedge.pairs import played
from surehedge.weights import check_free


def netting(market, book):
    """Returns the capital of the book, those of its contracts alone, and what is saved; raises NotFree."""
    whole = capital(market, book)
    parts = [capital(market, [each]) for each in book]
    return (whole, parts, minus(total(parts), whole))


def is_covered(market, book):
    """Tells whether the capital of the book is at most 0; raises NotFree."""
    return compare(capital(market, book), ZERO) <= 0


def moves_that_matter(market, book):
    """Returns for each pair the list of the choices of its game, with the moves that matter; raises NotFree.

    A choice is a tuple (position, side, first, second).
    """
    check_free(market)
    rows = played(market, book, reached(market, book))
    rests = rests_behind(market, rows)
    return [_choices(game, rests.of_game(node, game), []) for node, _, game in rows]


def _choices(game, rests, position):
    """Returns the choices of a game that begins at this position, in ascending order of positions."""
    if game[0] == "end":
        return []
    needed = game_capital(game, rests)
    first, second = [game_capital(each, rests) == needed for each in game[2:]]
    found = [(position, game[0], first, second)]
    for move in (0, 1):
        found.extend(_choices(game[2 + move], rests, position + [move]))
    return found
