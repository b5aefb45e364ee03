import importlib
import inspect
import pathlib
import re
import unittest

from surehedge.desk import Desk
from surehedge.errors import HedgeError

FUNCTIONS = {
    "numbers": """
        is_number(value)
        is_short(value)
        number(n, d)
        compare(a, b)
        plus(a, b)
        minus(a, b)
        times(a, b)
        divided(a, b)
        total(numbers)
        dot(a, b)
    """,
    "markets": """
        is_name(value)
        check_market(market)
        children(market, node)
        path_to(market, node)
        leaves(market)
        inner_nodes(market)
        gains(market, node)
        keeps_rules(market, node, holdings)
        wealth_in(market, node, child, wealth, holdings)
    """,
    "contracts": """
        check_contract(market, contract)
        check_book(market, book)
        amount_at(market, node, amount)
        holds_at(market, node, condition)
        has_choices(contract)
    """,
    "games": """
        first_state(book)
        check_state(book, state)
        game_of(market, book, node, state)
        ends_of(game)
        end_of(game, moves)
        reached(market, book)
        reached_from(market, book, node, state)
        exchanged(book)
        payments_of(market, contract)
    """,
    "reading": """
        lines_of(text)
        words_of(line)
        read_number(word)
        read_market(text)
        read_contract(market, text)
        read_book(market, text)
    """,
    "writing": """
        write_number(number)
        write_amount(amount)
        write_condition(condition)
        write_clause(clause)
        write_market(market)
        write_contract(contract)
        write_book(book)
    """,
    "systems": """
        check_system(count, rows)
        check_objective(count, objective, rows)
        value_of(factors, numbers)
        fulfills(rows, numbers)
        refutes(count, rows, multipliers)
        solve_system(count, rows)
        judge_system(count, rows, answer)
        least_of(count, objective, rows)
        judge_least(count, objective, rows, answer)
    """,
    "weights": """
        is_weights(market, node, numbers, *, positive=False)
        extreme_weights(market, node)
        mean_weights(market, node)
        unfree_node(market)
        check_free(market)
        is_complete(market)
    """,
    "arbitrage": """
        win(market, child, holdings)
        wins(market, node, holdings)
        arbitrage_of(market)
        judge_arbitrage(market, answer)
    """,
    "steps": """
        covers(market, node, values, *, wealth, holdings)
        cost_of(market, node, values)
        loan_on(market, node, values)
        judge_cost(market, node, values, paper)
        judge_loan(market, node, values, paper)
    """,
    "capital": """
        game_capital(game, rests)
        capitals(market, book)
        capital(market, book)
        capital_at(market, book, *, node, state)
        raised(market, book, *, side, contract)
    """,
    "plans": """
        is_plan(market, book, plan)
        needs(market, book, plan)
        best_plan(market, book)
        follow(market, book, plan, *, wealth, play)
    """,
    "refuting": """
        is_refutation(market, book, refutation)
        shown(market, book, refutation)
        best_refutation(market, book)
        play_against(market, book, plan, *, wealth)
    """,
    "programs": """
        solution(program)
        is_solution(program, *, told)
    """,
    "quotes": """
        is_masses(market, masses)
        value_of(masses, payments)
        agree(quotes, masses)
        is_portfolio(market, quotes, portfolio)
        wealths(market, quotes, portfolio)
        is_sure_gain(market, quotes, portfolio)
        positive_masses(market, quotes)
        sure_gain(market, quotes)
    """,
    "prices": """
        is_price(market, quotes, payments, price)
        price_ends(market, quotes, payments)
        high_evidence(market, quotes, payments)
        low_evidence(market, quotes, payments)
        is_high_evidence(market, quotes, payments, *, evidence)
        is_low_evidence(market, quotes, payments, *, evidence)
    """,
    "copying": """
        opposite(payments)
        plan_wealths(market, payments, plan)
        copies(market, payments, plan)
        is_balances(market, balances)
        speak_against(market, payments, balances)
        copy_of(market, payments)
        against(market, payments)
        copied_price(market, payments)
        copies_everything(market)
        uncopied(market)
    """,
    "lines": """
        straight(value, slope)
        is_line(pieces)
        value_at(line, x)
        add_lines(line, other)
        greater_line(line, other)
        lesser_line(line, other)
        scale_line(line, number)
        first_slope(line)
    """,
    "moves": """
        capital_with(market, book, node, amount)
        up_line(market, book, node)
        down_line(market, book, node)
    """,
    "checker": """
        check(market, claim, paper)
        opposite_claim(claim)
        paper_of(market, claim)
    """,
    "desk": """
        replay(market, wealth, journal)
    """,
    "whole": """
        netting(market, book)
        is_covered(market, book)
        moves_that_matter(market, book)
    """,
}
METHODS = """
    __init__(self, market, *, wealth)
    take(self, side, contract, *, price)
    settle(self, moves)
    go(self, holdings, *, child)
    undo(self)
    redo(self)
    do_all(self, deeds)
    capital(self)
    surplus(self)
    game(self)
    journal(self)
    __len__(self)
"""
PROPERTIES = ["position", "is_settled", "wealth", "book", "state", "can_undo", "can_redo"]


class Interface(unittest.TestCase):
    def test_functions_stand_in_their_files(self):
        for file, listed in FUNCTIONS.items():
            module = importlib.import_module("surehedge." + file)
            for row in listed.split("\n"):
                if row.strip():
                    name, _, arguments = row.strip().partition("(")
                    with self.subTest(file=file, name=name):
                        function = getattr(module, name)
                        self.assertEqual(str(inspect.signature(function)), "(" + arguments)
                        self.assertEqual(function.__module__, "surehedge." + file)

    def test_methods_and_properties_stand_in_their_class(self):
        self.assertEqual(Desk.__module__, "surehedge.desk")
        for row in METHODS.strip().split("\n"):
            name, _, arguments = row.strip().partition("(")
            with self.subTest(name=name):
                self.assertEqual(str(inspect.signature(vars(Desk)[name])), "(" + arguments)
        for name in PROPERTIES:
            with self.subTest(name=name):
                self.assertIsInstance(vars(Desk)[name], property)

    def test_what_the_document_lists_stands_here(self):
        path = pathlib.Path(__file__).resolve().parent.parent.parent / "shared" / "DOC.md"
        if not path.exists():
            self.skipTest("the document is not at hand")
        for part in path.read_text(encoding="utf-8").split("\n## surehedge/")[1:]:
            file = part.partition(".py")[0]
            names = []
            for row in part.split("\n"):
                if row.startswith("- `"):
                    names += re.findall(r"`(\w+)\(", row.partition(": ")[0])
            for name in names:
                with self.subTest(file=file, name=name):
                    if file == "errors":
                        self.assertTrue(hasattr(importlib.import_module("surehedge.errors"), name))
                    else:
                        self.assertIn("\n        " + name + "(", FUNCTIONS[file])

    def test_all_errors_of_the_program_stand_in_their_file(self):
        classes = HedgeError.__subclasses__() + [HedgeError]
        self.assertEqual({each.__module__ for each in classes}, {"surehedge.errors"})


if __name__ == "__main__":
    unittest.main()
