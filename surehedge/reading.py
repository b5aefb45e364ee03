"""Reading markets, contracts and books from their written forms.

The words of each line are taken one by one, each as a word of the kind that
is due there. What is due is kept in a list, the next one last, so that deep
contracts need no deep calls.
"""

from surehedge.contracts import check_book, check_contract
from surehedge.errors import BadText
from surehedge.grammar import CHOOSERS, PARTS, SIDES, SIGNS, kinds_behind
from surehedge.markets import DIGITS, RULES, check_market, is_name
from surehedge.numbers import is_short
from surehedge.writing import write_number

MOST_DIGITS = 12
NAMES = ("name", "definition", "quantity", "asset")
DEFINE_LINE = ("define", "name", "clause")
SIDE_LINE = ("side",)


def lines_of(text):
    """Gives the lines of the text, in order, without their newlines."""
    lines = text.split("\n")
    last = lines.pop()
    for line in lines:
        yield line
    if last:
        yield last


def words_of(line):
    """Returns the words of the line, empty ones too, as tuples (column, word)."""
    found = []
    column = 1
    for word in line.split(" "):
        found.append((column, word))
        column += len(word) + 1
    return found


def read_number(word):
    """Returns the short number whose written form the word is, or None if it is none."""
    n, slash, d = word.removeprefix("-").partition("/")
    if not _is_whole_word(n) or (slash and not _is_whole_word(d)):
        return None
    result = (-int(n) if word.startswith("-") else int(n), int(d) if slash else 1)
    if not is_short(result) or write_number(result) != word:
        return None
    return result


def _is_whole_word(word):
    """Tells whether the word is a whole number, not less than 0, in its written form."""
    if not 1 <= len(word) <= MOST_DIGITS or not all(mark in DIGITS for mark in word):
        return False
    return word == "0" or word[0] != "0"


def read_market(text):
    """Returns the market whose written form the text is."""
    rows = []
    for line in lines_of(text):
        rows.append(_take_line(len(rows) + 1, line, _kinds_in_market(rows, line)))
    _check_end(text, len(rows), len(rows) < 2)
    assets = [word for _, word in rows[0][1:]]
    seen = [word for _, word in rows[1][1:]]
    nodes = [_node_of(row, len(assets)) for row in rows[2:]]
    market = (assets, seen, nodes)
    check_market(market)
    return market


def _kinds_in_market(rows, line):
    """Returns the kinds of the words of the line that can stand behind these rows of a market."""
    names = line.count(" ")
    if not rows:
        return ["assets"] + ["name"] * max(1, names)
    if len(rows) == 1:
        return ["seen"] + ["name"] * names
    assets = ["rule", "number", "number"] * (len(rows[0]) - 1)
    return ["node", "parent", "number"] + assets + ["number"] * (len(rows[1]) - 1)


def _node_of(row, many):
    """Returns the node that a row of its line tells, in a market with as many assets."""
    data = [_data_of(kind, word) for kind, word in row]
    values = 3 + 3 * many
    return (data[1], data[2], data[3:values:3], data[4:values:3], data[5:values:3], data[values:])


def read_contract(market, text):
    """Returns the contract whose written form the text is."""
    rows = []
    for line in lines_of(text):
        rows.append(_take_line(len(rows) + 1, line, DEFINE_LINE))
    _check_end(text, len(rows), False)
    contract = [_definition_of(row) for row in rows]
    check_contract(market, contract)
    return contract


def read_book(market, text):
    """Returns the book whose written form the text is."""
    rows = []
    for line in lines_of(text):
        rows.append(_take_line(len(rows) + 1, line, _kinds_in_book(rows, line)))
    _check_end(text, len(rows), rows != [] and _is_side_row(rows[-1]))
    book = []
    for row in rows:
        if _is_side_row(row):
            book.append((row[0][1], []))
        else:
            book[-1][1].append(_definition_of(row))
    check_book(market, book)
    return book


def _kinds_in_book(rows, line):
    """Returns the kinds of the words of the line that can stand behind these rows of a book."""
    if not rows:
        return SIDE_LINE
    if _is_side_row(rows[-1]):
        return DEFINE_LINE
    return SIDE_LINE if line.split(" ")[0] in SIDES else DEFINE_LINE


def _is_side_row(row):
    return row[0][0] == "side"


def _definition_of(row):
    """Returns the definition that a row of its line tells."""
    # From the last word on, all parts of a word are ready when it is its turn.
    ready = []
    for kind, word in reversed(row[2:]):
        parts = []
        if kind in PARTS:
            for _ in _kinds_behind_word(kind, word):
                parts.append(ready.pop())
        ready.append(_joined(kind, word, parts))
    return (row[1][1], ready.pop())


def _joined(kind, word, parts):
    """Returns what the word stands for, together with the parts behind it."""
    if kind not in PARTS:
        return _data_of(kind, word)
    if word in CHOOSERS:
        return ("choice", word, *parts)
    return (word, *parts)


def _data_of(kind, word):
    """Returns what a word of this kind, which is not that of a part, stands for."""
    if kind == "number":
        return read_number(word)
    if kind == "parent":
        return -1 if word == "root" else int(word)
    return word


def _take_line(place, line, kinds):
    """Returns the words of the line as tuples (kind, word), or raises BadText at its first fault."""
    due = list(kinds[::-1])
    row = []
    for column, word in words_of(line):
        if not due or not _is_right(due[-1], word):
            raise BadText(place, column)
        kind = due.pop()
        row.append((kind, word))
        if kind in PARTS:
            due.extend(_kinds_behind_word(kind, word)[::-1])
    if due:
        raise BadText(place, len(line) + 1)
    return row


def _is_right(kind, word):
    """Tells whether the word can stand where a word of this kind is due."""
    if kind in PARTS:
        return _kinds_behind_word(kind, word) is not None
    if kind in NAMES:
        return is_name(word)
    if kind == "number":
        return read_number(word) is not None
    if kind == "parent":
        return word == "root" or _is_whole_word(word)
    if kind == "sign":
        return word in SIGNS
    if kind == "rule":
        return word in RULES
    if kind == "side":
        return word in SIDES
    return word == kind


def _kinds_behind_word(kind, word):
    """Returns the kinds of the words due behind the word of a part, None if no such part begins with it."""
    # A choice is written by the word of who chooses, not by its own.
    if kind == "clause" and word == "choice":
        return None
    if kind == "clause" and word in CHOOSERS:
        return kinds_behind(kind, "choice")[1:]
    return kinds_behind(kind, word)


def _check_end(text, many, is_missing):
    """Raises BadText if the text, of as many right lines, has no newline at its end, or misses a line there."""
    if text and not text.endswith("\n"):
        raise BadText(many, len(text) - text.rfind("\n"))
    if is_missing:
        raise BadText(many + 1, 1)
