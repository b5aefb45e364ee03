"""The examples of the interface, all of them, as they stand there."""

import unittest

from surehedge import errors

EXAMPLES = r"""
>>> from surehedge.numbers import number
>>> number(6, -4)
(-3, 2)

>>> from surehedge.markets import gains, wealth_in
>>> root = (-1, (1, 1), ["any"], [(100, 1)], [(0, 1)], [])
>>> up = (0, (1, 1), ["any"], [(120, 1)], [(0, 1)], [])
>>> down = (0, (1, 1), ["any"], [(90, 1)], [(0, 1)], [])
>>> market = (["stock"], [], [root, up, down])
>>> gains(market, 0)
[[(20, 1)], [(-10, 1)]]
>>> wealth_in(market, 0, 2, (5, 1), [(1, 2)])
(0, 1)

>>> from surehedge.games import game_of
>>> root = (-1, (1, 1), ["any"], [(100, 1)], [(0, 1)], [])
>>> up = (0, (1, 1), ["any"], [(120, 1)], [(0, 1)], [])
>>> down = (0, (1, 1), ["any"], [(90, 1)], [(0, 1)], [])
>>> market = (["stock"], [], [root, up, down])
>>> call = [("call", ("choice", "holder", ("pay", ("plus", ("name", "stock"), ("number", (-105, 1)))), ("next", "call")))]
>>> game_of(market, [("written", call)], 1, [["call"]])
('theirs', 0, ('end', (15, 1), [[]]), ('end', (0, 1), [[]]))
>>> game_of(market, [("held", call)], 0, [["call"]])
('ours', 0, ('end', (5, 1), [[]]), ('end', (0, 1), [['call']]))

>>> from surehedge.reading import read_number
>>> read_number("-7/2")
(-7, 2)

>>> from surehedge.reading import read_number
>>> read_number("4/2") is None
True

>>> from surehedge.reading import read_contract
>>> market = (["stock"], [], [(-1, (1, 1), ["any"], [(100, 1)], [(0, 1)], [])])
>>> read_contract(market, "define call if leaf pay max plus name stock number -105 number 0 next call\n")
[('call', ('if', ('leaf',), ('pay', ('max', ('plus', ('name', 'stock'), ('number', (-105, 1))), ('number', (0, 1)))), ('next', 'call')))]

>>> from surehedge.reading import read_contract
>>> market = (["stock"], [], [(-1, (1, 1), ["any"], [(100, 1)], [(0, 1)], [])])
>>> read_contract(market, "define a pay plus number 1\n")
raises BadText

>>> from surehedge.systems import solve_system
>>> solve_system(1, [([(1, 1)], "<=", (2, 1)), ([(-1, 1)], "<", (-2, 1))])
('multipliers', [(1, 1), (1, 1)])

>>> from surehedge.systems import least_of
>>> least_of(1, [(1, 1)], [([(-1, 1)], "<=", (-3, 2))])
('least', (3, 2), [(3, 2)], [(1, 1)])

>>> from surehedge.weights import extreme_weights
>>> root = (-1, (1, 1), ["any"], [(100, 1)], [(0, 1)], [])
>>> up = (0, (1, 1), ["any"], [(120, 1)], [(0, 1)], [])
>>> same = (0, (1, 1), ["any"], [(100, 1)], [(0, 1)], [])
>>> down = (0, (1, 1), ["any"], [(90, 1)], [(0, 1)], [])
>>> extreme_weights((["stock"], [], [root, up, same, down]), 0)
[[(0, 1), (1, 1), (0, 1)], [(1, 3), (0, 1), (2, 3)]]

>>> from surehedge.arbitrage import arbitrage_of
>>> root = (-1, (1, 1), ["long"], [(100, 1)], [(0, 1)], [])
>>> up = (0, (1, 1), ["any"], [(120, 1)], [(0, 1)], [])
>>> down = (0, (1, 1), ["any"], [(90, 1)], [(0, 1)], [])
>>> arbitrage_of((["stock"], [], [root, up, down]))
('free', [[(1, 6), (5, 6)], [], []])

>>> from surehedge.steps import cost_of
>>> root = (-1, (1, 1), ["any"], [(100, 1)], [(0, 1)], [])
>>> up = (0, (1, 1), ["any"], [(120, 1)], [(0, 1)], [])
>>> down = (0, (1, 1), ["any"], [(90, 1)], [(0, 1)], [])
>>> cost_of((["stock"], [], [root, up, down]), 0, [(15, 1), (0, 1)])
((5, 1), [(1, 3), (2, 3)], [(1, 2)])

>>> from surehedge.capital import game_capital
>>> game = ("theirs", 0, ("end", (1, 1), [["a"]]), ("end", (0, 1), [["b"]]))
>>> game_capital(game, [([["a"]], (2, 1)), ([["b"]], (7, 2))])
(7, 2)

>>> from surehedge.programs import is_solution
>>> program = ([[(1, 1), (1, 1)], [(1, 1), (0, 1)]], [(4, 1), (3, 1)], [(2, 1), (1, 1)])
>>> is_solution(program, told=("best", [(3, 1), (1, 1)], [(1, 1), (1, 1)]))
True
>>> is_solution(program, told=("best", [(3, 1), (0, 1)], [(1, 1), (1, 1)]))
False
"""


class Examples(unittest.TestCase):
    def test_each_one(self):
        examples = EXAMPLES.strip().split("\n\n")
        self.assertEqual(len(examples), 14)
        for example in examples:
            with self.subTest(example=example):
                self.follow(example.split("\n"))

    def follow(self, lines):
        """Does the lines one after another; what is returned, or raised, stands behind the line of its call."""
        names = {}
        lines = list(lines)
        asked = 0
        while lines:
            line = lines.pop(0).removeprefix(">>> ")
            if not lines or lines[0].startswith(">>> "):
                exec(line, names)
                continue
            asked += 1
            expected = lines.pop(0)
            if expected.startswith("raises "):
                with self.assertRaises(getattr(errors, expected.removeprefix("raises "))):
                    eval(line, names)
            else:
                self.assertEqual(repr(eval(line, names)), expected)
        self.assertGreater(asked, 0)


if __name__ == "__main__":
    unittest.main()
