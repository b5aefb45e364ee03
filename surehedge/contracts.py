"""Contracts: their checks, and the values of amounts and conditions at a node."""

from surehedge.errors import (
    BadAmount,
    BadClause,
    BadCondition,
    BadName,
    BadNumber,
    BadSide,
    BadSign,
    BadSize,
    TooDeep,
    UnknownName,
)
from surehedge.grammar import CHOOSERS, PARTS, SIDES, SIGNS, kinds_behind
from surehedge.markets import is_leaf, is_name, path_to
from surehedge.numbers import compare, greater, is_short, lesser, plus, times

MOST_DEFINITIONS = 12
MOST_CONTRACTS = 4
MOST_DEPTH = 11


def check_contract(market, contract):
    """Raises the first error that is due for the contract, if there is one."""
    if not 1 <= len(contract) <= MOST_DEFINITIONS:
        raise BadSize()
    names = []
    for name, _ in contract:
        if not is_name(name) or name in names:
            raise BadName()
        names.append(name)
    for _, clause in contract:
        _check_part(market, names, "clause", clause, 0)


def check_book(market, book):
    """Raises the first error that is due for the book, if there is one."""
    if len(book) > MOST_CONTRACTS:
        raise BadSize()
    for side, contract in book:
        if side not in SIDES:
            raise BadSide()
        check_contract(market, contract)


def _check_part(market, names, kind, part, depth):
    """Checks a part that stands within as many others as the depth tells: all of it ahead of its parts."""
    if depth > MOST_DEPTH:
        raise TooDeep()
    kinds = kinds_behind(kind, part[0])
    if kinds is None or len(part) != 1 + len(kinds):
        _refuse(kind)
    for inner, value in zip(kinds, part[1:]):
        if inner not in PARTS:
            _check_word(market, names, inner, value)
    for inner, value in zip(kinds, part[1:]):
        if inner in PARTS:
            _check_part(market, names, inner, value, depth + 1)


def _refuse(kind):
    if kind == "amount":
        raise BadAmount()
    if kind == "condition":
        raise BadCondition()
    raise BadClause()


def _check_word(market, names, kind, value):
    """Checks what stands in a part and is not a part itself."""
    assets, seen, _ = market
    if kind == "number" and not is_short(value):
        raise BadNumber()
    if kind == "definition" and value not in names:
        raise UnknownName()
    if kind == "asset" and value not in assets:
        raise UnknownName()
    if kind == "quantity" and value not in assets + seen:
        raise UnknownName()
    if kind == "sign" and value not in SIGNS:
        raise BadSign()
    if kind == "chooser" and value not in CHOOSERS:
        raise BadSide()


def amount_at(market, node, amount):
    """Returns the value of the amount at the node."""
    word = amount[0]
    if word == "number":
        return amount[1]
    if word == "name":
        return _quantity_at(market, node, amount[1])
    if word == "payout":
        return market[2][node][4][market[0].index(amount[1])]
    if word == "time":
        return (len(path_to(market, node)) - 1, 1)
    if word == "times":
        return times(amount[1], amount_at(market, node, amount[2]))
    left = amount_at(market, node, amount[1])
    right = amount_at(market, node, amount[2])
    if word == "plus":
        return plus(left, right)
    if word == "max":
        return greater(left, right)
    return lesser(left, right)


def _quantity_at(market, node, name):
    assets, seen, nodes = market
    if name in assets:
        return nodes[node][3][assets.index(name)]
    return nodes[node][5][seen.index(name)]


def holds_at(market, node, condition):
    """Tells whether the condition holds at the node."""
    word = condition[0]
    if word == "leaf":
        return is_leaf(market, node)
    if word == "compare":
        left = amount_at(market, node, condition[2])
        right = amount_at(market, node, condition[3])
        return _is_as_told(condition[1], compare(left, right))
    if word == "not":
        return not holds_at(market, node, condition[1])
    if word == "and":
        return holds_at(market, node, condition[1]) and holds_at(market, node, condition[2])
    return holds_at(market, node, condition[1]) or holds_at(market, node, condition[2])


def _is_as_told(sign, order):
    """Tells whether two numbers that compare as -1, 0 or 1 are as the sign says."""
    if sign == "=":
        return order == 0
    if sign == "!=":
        return order != 0
    if sign == "<":
        return order < 0
    if sign == "<=":
        return order <= 0
    if sign == ">":
        return order > 0
    return order >= 0


def has_choices(contract):
    """Tells whether some clause of the contract has a choice."""
    return any(_has_choice(clause) for _, clause in contract)


def _has_choice(clause):
    word = clause[0]
    if word == "choice":
        return True
    if word == "both":
        return _has_choice(clause[1]) or _has_choice(clause[2])
    if word == "if":
        return _has_choice(clause[2]) or _has_choice(clause[3])
    return False
