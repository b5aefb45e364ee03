"""The written forms of markets, contracts and books."""

from surehedge.grammar import PARTS, kinds_behind


def write_number(number):
    """Returns the written form of a short number."""
    n, d = number
    if d == 1:
        return str(n)
    return str(n) + "/" + str(d)


def write_amount(amount):
    """Returns the words of the amount."""
    return _write_part("amount", amount)


def write_condition(condition):
    """Returns the words of the condition."""
    return _write_part("condition", condition)


def write_clause(clause):
    """Returns the words of the clause."""
    return _write_part("clause", clause)


def _write_part(kind, part):
    # A choice is written without its own word: who chooses is the word that it begins with.
    words = [] if part[0] == "choice" else [part[0]]
    for inner, value in zip(kinds_behind(kind, part[0]), part[1:]):
        if inner in PARTS:
            words.append(_write_part(inner, value))
        elif inner == "number":
            words.append(write_number(value))
        else:
            words.append(value)
    return " ".join(words)


def write_market(market):
    """Returns the written form of the market."""
    assets, seen, nodes = market
    lines = [["assets"] + assets, ["seen"] + seen]
    for node in nodes:
        lines.append(_words_of_node(node))
    return _write_lines(lines)


def _words_of_node(node):
    parent, growth, rules, prices, payouts, values = node
    words = ["node", "root" if parent == -1 else str(parent), write_number(growth)]
    for rule, price, payout in zip(rules, prices, payouts):
        words.extend([rule, write_number(price), write_number(payout)])
    for value in values:
        words.append(write_number(value))
    return words


def _write_lines(lines):
    return "".join([" ".join(words) + "\n" for words in lines])


def write_contract(contract):
    """Returns the written form of the contract."""
    return _write_lines([["define", name, write_clause(clause)] for name, clause in contract])


def write_book(book):
    """Returns the written form of the book."""
    return "".join([side + "\n" + write_contract(contract) for side, contract in book])
