"""What several tests use: markets that are quickly made, and checks of arguments."""

import copy


def num(n, d=1):
    return (n, d)


def node(parent, prices, *, growth=(1, 1), rules=None, payouts=None, values=()):
    """A node whose prices, payouts and values are told as whole numbers or as numbers."""
    prices = [full(each) for each in prices]
    payouts = [(0, 1) for _ in prices] if payouts is None else [full(each) for each in payouts]
    rules = ["any" for _ in prices] if rules is None else list(rules)
    return (parent, growth, rules, prices, payouts, [full(each) for each in values])


def full(value):
    return (value, 1) if isinstance(value, int) else value


def tree(parents):
    """A market with one asset, no seen quantities, and this tree."""
    return (["stock"], [], [node(parent, [100 + place]) for place, parent in enumerate(parents)])


def stock_market():
    """The market of the interface: a stock at 100 that goes to 120 or 90."""
    return (["stock"], [], [node(-1, [100]), node(0, [120]), node(0, [90])])


def two_asset_market():
    """Two assets, one seen quantity, two steps."""
    return (
        ["stock", "bond"],
        ["rain"],
        [
            node(-1, [100, 50], growth=(11, 10), rules=["long", "short"], values=[3]),
            node(0, [120, 49], payouts=[2, (1, 2)], rules=["none", "any"], values=[(1, 3)]),
            node(0, [(-90, 7), 51], payouts=[-1, 0], values=[-4]),
            node(1, [130, 50], payouts=[0, 5], values=[0]),
            node(1, [110, 50], values=[9]),
        ],
    )


def call_kept(case, function, *args, **named):
    """Calls the function, and fails the case if what was handed in is changed by the call."""
    before = copy.deepcopy((args, named))
    result = function(*args, **named)
    case.assertEqual((args, named), before)
    return result


def spoil(value):
    """Empties and changes all lists within the value, as a caller may do with what was returned."""
    if isinstance(value, (list, tuple)):
        for each in value:
            spoil(each)
    if isinstance(value, list):
        value.append("spoilt")
        value.reverse()


def check_new(case, function, *args, **named):
    """Fails the case if changing what the function returned changes its arguments or what it returns later.

    What is returned must not share one list in two places either.
    """
    first = call_kept(case, function, *args, **named)
    expected = copy.deepcopy(first)
    before = copy.deepcopy((args, named))
    lists = list_ids(first)
    case.assertEqual(len(lists), len(set(lists)))
    spoil(first)
    case.assertEqual((args, named), before)
    case.assertEqual(function(*args, **named), expected)
    return expected


def list_ids(value):
    """The identities of all lists within the value."""
    found = [id(value)] if isinstance(value, list) else []
    if isinstance(value, (list, tuple)):
        for each in value:
            found.extend(list_ids(each))
    return found
