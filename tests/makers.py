"""Random contracts and texts, always the same ones for the same seed."""

from tests.helpers import node

NUMBERS = [(0, 1), (1, 1), (-3, 1), (7, 2), (-1, 4), (999999999999, 1), (5, 999999999999)]
SIGNS = ["=", "!=", "<", "<=", ">", ">="]


def amount(rng, market, depth):
    words = ["number", "name", "payout", "time"]
    if depth > 0:
        words += ["plus", "times", "max", "min"]
    word = rng.choice(words)
    if word == "number":
        return (word, rng.choice(NUMBERS))
    if word == "name":
        return (word, rng.choice(market[0] + market[1]))
    if word == "payout":
        return (word, rng.choice(market[0]))
    if word == "time":
        return (word,)
    if word == "times":
        return (word, rng.choice(NUMBERS), amount(rng, market, depth - 1))
    return (word, amount(rng, market, depth - 1), amount(rng, market, depth - 1))


def condition(rng, market, depth):
    words = ["leaf", "compare"]
    if depth > 1:
        words += ["not", "and", "or"]
    word = rng.choice(words)
    if word == "leaf" or depth == 0:
        return ("leaf",)
    if word == "compare":
        return (word, rng.choice(SIGNS), amount(rng, market, depth - 1), amount(rng, market, depth - 1))
    if word == "not":
        return (word, condition(rng, market, depth - 1))
    return (word, condition(rng, market, depth - 1), condition(rng, market, depth - 1))


def clause(rng, market, names, depth):
    words = ["nothing", "next"]
    if depth > 0:
        words += ["pay", "pay", "both", "both", "if", "choice"]
    word = rng.choice(words)
    if word == "nothing":
        return (word,)
    if word == "next":
        return (word, rng.choice(names))
    if word == "pay":
        return (word, amount(rng, market, depth - 1))
    parts = (clause(rng, market, names, depth - 1), clause(rng, market, names, depth - 1))
    if word == "if":
        return (word, condition(rng, market, depth - 1)) + parts
    if word == "choice":
        return (word, rng.choice(["holder", "writer"])) + parts
    return (word,) + parts


def contract(rng, market, depth=3):
    names = rng.sample(["a", "next", "both", "b2", "holder", "number", "define", "written"], rng.randint(1, 3))
    return [(name, clause(rng, market, names, depth)) for name in names]


def book(rng, market, most=4, depth=3):
    many = rng.randint(0, most)
    return [(rng.choice(["written", "held"]), contract(rng, market, depth)) for _ in range(many)]


def market(rng):
    """A market with one or two assets, at most two seen quantities and at most seven nodes."""
    assets = ["stock", "bond"][: rng.randint(1, 2)]
    seen = ["rain", "sun"][: rng.randint(0, 2)]
    nodes = []
    for place in range(rng.randint(1, 7)):
        nodes.append(
            node(
                rng.randrange(place) if place else -1,
                [rng.choice(NUMBERS) for _ in assets],
                growth=rng.choice([(1, 1), (11, 10), (5, 1)]),
                rules=[rng.choice(["any", "long", "short", "none"]) for _ in assets],
                payouts=[rng.choice(NUMBERS) for _ in assets],
                values=[rng.choice(NUMBERS) for _ in seen],
            )
        )
    return (assets, seen, nodes)
