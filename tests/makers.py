"""Random markets, contracts and texts, always the same ones for the same seed."""

from fractions import Fraction

from surehedge.weights import unfree_node
from tests.helpers import node

NUMBERS = [(0, 1), (1, 1), (-3, 1), (7, 2), (-1, 4), (999999999999, 1), (5, 999999999999)]
SIGNS = ["=", "!=", "<", "<=", ">", ">="]


def amount(rng, market, depth):
    words = ["number", "name", "payout", "time"]
    if depth > 0:
        words += ["plus", "times", "max", "min"]
    word = rng.choice(words)
    if word == "number":
        return (word, rng.choice(NUMBERS))
    if word == "name":
        return (word, rng.choice(market[0] + market[1]))
    if word == "payout":
        return (word, rng.choice(market[0]))
    if word == "time":
        return (word,)
    if word == "times":
        return (word, rng.choice(NUMBERS), amount(rng, market, depth - 1))
    return (word, amount(rng, market, depth - 1), amount(rng, market, depth - 1))


def condition(rng, market, depth):
    words = ["leaf", "compare"]
    if depth > 1:
        words += ["not", "and", "or"]
    word = rng.choice(words)
    if word == "leaf" or depth == 0:
        return ("leaf",)
    if word == "compare":
        return (word, rng.choice(SIGNS), amount(rng, market, depth - 1), amount(rng, market, depth - 1))
    if word == "not":
        return (word, condition(rng, market, depth - 1))
    return (word, condition(rng, market, depth - 1), condition(rng, market, depth - 1))


def clause(rng, market, names, depth):
    words = ["nothing", "next"]
    if depth > 0:
        words += ["pay", "pay", "both", "both", "if", "choice"]
    word = rng.choice(words)
    if word == "nothing":
        return (word,)
    if word == "next":
        return (word, rng.choice(names))
    if word == "pay":
        return (word, amount(rng, market, depth - 1))
    parts = (clause(rng, market, names, depth - 1), clause(rng, market, names, depth - 1))
    if word == "if":
        return (word, condition(rng, market, depth - 1)) + parts
    if word == "choice":
        return (word, rng.choice(["holder", "writer"])) + parts
    return (word,) + parts


def contract(rng, market, depth=3):
    names = rng.sample(["a", "next", "both", "b2", "holder", "number", "define", "written"], rng.randint(1, 3))
    return [(name, clause(rng, market, names, depth)) for name in names]


def book(rng, market, most=4, depth=3):
    many = rng.randint(0, most)
    return [(rng.choice(["written", "held"]), contract(rng, market, depth)) for _ in range(many)]


def market(rng):
    """A market with one or two assets, at most two seen quantities and at most seven nodes."""
    assets = ["stock", "bond"][: rng.randint(1, 2)]
    seen = ["rain", "sun"][: rng.randint(0, 2)]
    nodes = []
    for place in range(rng.randint(1, 7)):
        nodes.append(
            node(
                rng.randrange(place) if place else -1,
                [rng.choice(NUMBERS) for _ in assets],
                growth=rng.choice([(1, 1), (11, 10), (5, 1)]),
                rules=[rng.choice(["any", "long", "short", "none"]) for _ in assets],
                payouts=[rng.choice(NUMBERS) for _ in assets],
                values=[rng.choice(NUMBERS) for _ in seen],
            )
        )
    return (assets, seen, nodes)


def small(rng, size=5):
    """A small number, often a whole one."""
    fraction = Fraction(rng.randint(-size, size), rng.choice([1, 1, 1, 2, 3]))
    return (fraction.numerator, fraction.denominator)


def wide(rng):
    """A number with twelve figures above and below."""
    fraction = Fraction(rng.randint(1 - 10 ** 12, 10 ** 12 - 1), rng.randint(10 ** 11, 10 ** 12 - 1))
    return (fraction.numerator, fraction.denominator)


def grown_node(rng, parent, many, rules=None, price=small):
    """A node with so many assets."""
    return node(
        parent,
        [price(rng) for _ in range(many)],
        growth=rng.choice([(1, 1), (1, 1), (11, 10), (1, 2), (3, 1)]),
        rules=rules or [rng.choice(["any", "any", "long", "short", "none"]) for _ in range(many)],
        payouts=[rng.choice([(0, 1), price(rng)]) for _ in range(many)],
    )


def step_market(rng, assets=None, children=None, price=small):
    """A market of one step."""
    assets = assets or rng.randint(1, 4)
    children = children or rng.randint(1, 6)
    nodes = [grown_node(rng, -1 if place == 0 else 0, assets, price=price) for place in range(children + 1)]
    return (["a", "b", "c", "d"][:assets], [], nodes)


def free_step_market(rng, assets=None, children=None):
    """A market of one step that is free: positive weights are chosen first, and the prices made for them."""
    assets = assets or rng.randint(1, 3)
    children = children or rng.randint(2, 5)
    below = [grown_node(rng, 0, assets) for _ in range(children)]
    return (["a", "b", "c", "d"][:assets], [], [parent_of(rng, -1, below)] + below)


def parent_of(rng, parent, below):
    """A node at which some positive weights of these children have mean gains that the rules want."""
    parts = [rng.randint(1, 4) for _ in below]
    growth = rng.choice([(1, 1), (11, 10), (1, 2)])
    prices = []
    rules = []
    for asset in range(len(below[0][3])):
        values = [Fraction(*row[3][asset]) + Fraction(*row[4][asset]) for row in below]
        mean = sum(part * value for part, value in zip(parts, values)) / sum(parts)
        rule = rng.choice(["any", "any", "long", "short", "none"])
        # A price above the fair one leaves those who hold with a loss, one below it those who owe.
        off = {"any": 0, "long": rng.randint(0, 2), "short": -rng.randint(0, 2), "none": rng.randint(-3, 3)}[rule]
        price = mean / Fraction(*growth) + off
        prices.append((price.numerator, price.denominator))
        rules.append(rule)
    payouts = [rng.choice([(0, 1), small(rng)]) for _ in prices]
    return node(parent, prices, growth=growth, rules=rules, payouts=payouts)


def free_market(rng, most=9, assets=None):
    """A free market with a seen quantity and a tree of at most so many nodes."""
    assets = assets or rng.randint(1, 2)
    parents = [-1]
    for place in range(1, rng.randint(1, most)):
        parent = rng.randrange(place)
        parents.append(parent if parents.count(parent) < 6 else place - 1)
    return free_tree(rng, parents, assets)


def free_tree(rng, parents, assets):
    """A free market with this tree, made from the leaves on."""
    nodes = [None] * len(parents)
    for place in reversed(range(len(parents))):
        below = [nodes[child] for child, parent in enumerate(parents) if parent == place]
        row = parent_of(rng, parents[place], below) if below else grown_node(rng, parents[place], assets)
        nodes[place] = row[:5] + ([small(rng)],)
    return (["stock", "bond", "gold", "oil"][:assets], ["rain"], nodes)


def payments(rng, market, size=5):
    """A small number for each node."""
    return [small(rng, size) for _ in market[2]]


def quotes(rng, market, masses, most=3):
    """At most so many quotes, around the values that the masses give the payments, or off them."""
    found = []
    for _ in range(rng.randint(0, most)):
        claim = payments(rng, market)
        value = sum(Fraction(*a) * Fraction(*b) for a, b in zip(masses, claim))
        bid = value - rng.choice([0, 0, 1, Fraction(1, 10), -2])
        ask = value + rng.choice([0, 0, 1, Fraction(1, 10), -1])
        found.append((claim, (bid.numerator, bid.denominator), (ask.numerator, ask.denominator)))
    return found


def greatest_market(rng, parents, assets=4, rules=("any",)):
    """A market with numbers of twelve figures that likely is free: children are drawn until their parent is free."""
    names = ["a", "b", "c", "d"][:assets]

    def row(parent):
        growth = Fraction(rng.randint(10 ** 11, 10 ** 12 - 2), 10 ** 12 - 1)
        return node(
            parent, [wide(rng) for _ in names], growth=(growth.numerator, growth.denominator),
            rules=[rng.choice(rules) for _ in names], payouts=[wide(rng) for _ in names],
        )

    nodes = {0: row(-1)}
    for place in range(len(parents)):
        below = [child for child, parent in enumerate(parents) if parent == place]
        while below:
            drawn = [row(place) for _ in below]
            step = (names, [], [(-1,) + nodes[place][1:]] + [(0,) + each[1:] for each in drawn])
            if unfree_node(step) is None:
                nodes.update(zip(below, drawn))
                break
    return (names, [], [nodes[place] for place in range(len(parents))])
