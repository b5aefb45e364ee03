"""What the parts of a contract (clauses, conditions and amounts) consist of.

Each table gives, for the word with which a part begins, the kinds of what
stands behind the word, in order. The words "name", "payout" and "next" are
followed by names of three kinds, as each of them names something else.
"""

AMOUNTS = {
    "number": ("number",),
    "name": ("quantity",),
    "payout": ("asset",),
    "time": (),
    "plus": ("amount", "amount"),
    "times": ("number", "amount"),
    "max": ("amount", "amount"),
    "min": ("amount", "amount"),
}
CONDITIONS = {
    "leaf": (),
    "compare": ("sign", "amount", "amount"),
    "not": ("condition",),
    "and": ("condition", "condition"),
    "or": ("condition", "condition"),
}
CLAUSES = {
    "nothing": (),
    "pay": ("amount",),
    "next": ("definition",),
    "both": ("clause", "clause"),
    "if": ("condition", "clause", "clause"),
    "choice": ("chooser", "clause", "clause"),
}
PARTS = ("amount", "condition", "clause")
SIGNS = ("=", "!=", "<", "<=", ">", ">=")
CHOOSERS = ("holder", "writer")
SIDES = ("written", "held")


def kinds_behind(kind, word):
    """Returns the kinds of what stands behind the word in a part of this kind, None if no such part has the word."""
    if kind == "amount":
        return AMOUNTS.get(word)
    if kind == "condition":
        return CONDITIONS.get(word)
    return CLAUSES.get(word)
