"""Whether all that DOC.md lists is there: where it is listed, with these parameters, by these names."""

import ast
import importlib
import inspect
import pathlib
import unittest

FOLDER = pathlib.Path(__file__).parent.parent / "tallyhouse"

FUNCTIONS = {
    "tickets": {"are_digits": "thing", "is_ticket": "digits thing", "roll": "digits length", "is_ahead": "one other"},
    "making": {"added": "one other", "lessened": "one other", "multiplied": "one other", "met": "one other",
               "times": "number tally", "turned": "tally", "ahead": "tally ticket", "behind": "tally ticket",
               "nought": "digits", "lone": "digits ticket"},
    "lattices": {"hermite": "rows width", "lattice_rank": "rows width", "is_in_lattice": "rows row",
                 "is_in_span": "rows row", "numbers_for": "rows row", "fractions_for": "rows row",
                 "bar_for": "rows row"},
    "sames": {"are_same": "one other", "first_apart": "one other", "judge_same": "one other",
              "same_holds": "one other thing"},
    "leasts": {"rank": "tally", "tellers": "tally", "marks": "tally ticket", "least": "tally", "is_least": "tally",
               "witnesses": "tally", "witnesses_hold": "tally number thing"},
    "rewriters": {"kept": "digits", "up_to": "digits", "one_ahead": "digits", "exchanged": "rewriter",
                  "joined": "one other", "through": "tally rewriter"},
    "singles": {"is_single": "rewriter", "first_doubled": "rewriter", "judge_single": "rewriter",
                "single_holds": "rewriter thing"},
    "ranges": {"sums": "tally", "steps": "tally", "range_sum": "tally low high",
               "block_sum": "tally beginning length", "roll_sum": "tally length", "roll_sums": "tally many",
               "beginnings": "digits low high", "ticket_ahead": "digits ticket", "ticket_behind": "digits ticket"},
    "takings": {"takings": "tally ticket amount", "takings_hold": "tally ticket amount thing",
                "cuts": "tally length amounts"},
    "relations": {"worth_row": "given ticket", "worth_rows": "given", "rank_together": "given",
                  "telling_tickets": "given", "relations": "given", "is_relation": "given thing",
                  "combined": "given numbers", "judge_relations": "given", "relations_hold": "given thing"},
    "madeof": {"is_made_of": "goal given", "judge_made_of": "goal given", "made_of_holds": "goal given thing",
               "least_multiple": "goal given", "step_of": "given", "is_made_by_fractions": "goal given",
               "judge_by_fractions": "goal given", "by_fractions_hold": "goal given thing"},
    "useful": {"useful_states": "tally", "ways": "tally ticket state goal", "along": "tally ahead loop behind"},
    "doubling": {"doubling_states": "tally", "does_double": "tally", "doubled": "paper times"},
    "powers": {"rises": "tally", "degree": "tally", "levels_of": "tally", "raised": "paper times"},
    "growthpapers": {"judge_growth": "tally", "growth_holds": "tally thing", "grows_more": "one other"},
    "bounds": {"worths_round": "tally ahead loop behind many", "do_come_round": "tally ahead loop behind",
               "judge_bounds": "tally", "is_bounded": "tally", "bounds_hold": "tally thing", "worths_of": "tally"},
    "caps": {"capped": "tally row cap", "capped_on": "tally row digit cap", "capped_rows": "tally cap",
             "judge_cap": "tally cap", "is_within": "tally cap", "cap_holds": "tally cap thing",
             "first_above": "tally cap", "least_cap": "tally"},
    "answers": {"machine": "tally", "how_many": "tally number length", "worths_in": "tally length",
                "first_of": "tally number length", "nth_of": "tally number length index", "place_of": "tally ticket",
                "next_of": "tally number ticket", "ticket_of": "tally number index"},
    "prizes": {"greatest": "tally length", "lowest": "tally length", "greatest_ticket": "tally length",
               "lowest_ticket": "tally length", "greatests": "tally many", "lowests": "tally many",
               "greatest_behind": "tally ticket more", "lowest_behind": "tally ticket more",
               "highest_rows": "tally length", "lowest_rows": "tally length", "is_below": "tally one other",
               "judge_greatest": "tally length", "judge_lowest": "tally length",
               "greatest_holds": "tally length thing", "lowest_holds": "tally length thing"},
    "prices": {"told_row": "book number", "are_prices": "book thing", "can_be": "book", "judge_book": "book",
               "book_holds": "book thing", "suspects": "book"},
    "told": {"rest_and_step": "book ticket", "judge_worths": "book ticket", "worths_hold": "book ticket thing",
             "is_told": "book ticket", "first_open": "book", "judge_all": "book", "all_holds": "book thing"},
    "asked": {"to_ask": "book", "is_lot": "book thing", "is_enough": "book lot", "is_cheapest": "book lot",
              "cost_of": "lot", "asked": "book lot prices"},
    "wider": {"is_reading": "tally thing", "read_through": "tally reading", "merged": "tally kept other",
              "symmetries": "tally", "is_free_of_order": "tally", "is_by_length": "tally", "order_apart": "tally",
              "length_apart": "tally", "order_apart_holds": "tally thing", "length_apart_holds": "tally thing"},
    "promises": {"is_promise": "thing", "fault_of": "tally promise before others"},
    "rowfindings": {"row_finding_holds": "thing"}, "growthfindings": {"growth_finding_holds": "thing"},
    "bookfindings": {"book_finding_holds": "thing"}, "findings": {"finding_holds": "thing"},
}
CLASSES = {
    "tallies": {"Tally": {"__init__": "self digits start tables ends", "__len__": "self", "__eq__": "self other",
                          "__str__": "self", "read": "cls text", "row": "self ticket", "worth": "self ticket",
                          "table": "self ticket", "is_count": "self"}},
    "pieces": {"Piece": {"__init__": "self tally ticket", "joined": "self other", "__len__": "self",
                         "__eq__": "self other", "led": "self row", "worth_now": "self"}},
    "rewriters": {"Rewriter": {"__init__": "self digits written size moves ends", "__eq__": "self other",
                               "__str__": "self", "read": "cls text", "ways": "self ticket",
                               "rewritings": "self ticket"}},
    "prices": {"Book": {"__init__": "self tally told", "__len__": "self", "__eq__": "self other",
                        "with_told": "self low high amount", "without": "self number"}},
    "house": {"House": {"__init__": "self", "keep": "self name tally", "add_edition": "self name tally",
                        "make_promise": "self name promise", "release": "self name promise", "drop": "self name",
                        "undo": "self", "log": "self", "of": "cls log", "trial": "self", "gate": "self name tally",
                        "names": "self", "tariff_now": "self name", "editions": "self name", "promises": "self name",
                        "__eq__": "self other", "__len__": "self"}},
    "sales": {"Till": {"__init__": "self tally", "tariff": "self", "__len__": "self", "sell": "self low high",
                       "take_back": "self low high", "set_tariff": "self tally", "undo": "self", "redo": "self",
                       "takings": "self", "sold": "self length", "many_sold": "self length", "first_free": "self length",
                       "is_sold": "self thing", "paid": "self thing", "would_pay": "self low high", "log": "self",
                       "of": "cls tally log", "trial": "self", "__eq__": "self other"}},
    "console": {"Console": {"__init__": "self", "run": "self command", "house_now": "self"}},
}


def parameters(node):
    return " ".join(argument.arg for argument in node.args.args)


def definitions(body, kind):
    return {node.name: node for node in body if isinstance(node, kind)}


class InterfaceTest(unittest.TestCase):
    def test_functions(self):
        for name, functions in FUNCTIONS.items():
            found = definitions(ast.parse((FOLDER / f"{name}.py").read_text()).body, ast.FunctionDef)
            module = importlib.import_module(f"tallyhouse.{name}")
            for function, words in functions.items():
                self.assertEqual(parameters(found[function]), words, f"{name}.{function}")
                self.assertEqual(getattr(module, function).__module__, module.__name__)

    def test_classes(self):
        for name, classes in CLASSES.items():
            found = definitions(ast.parse((FOLDER / f"{name}.py").read_text()).body, ast.ClassDef)
            for word, methods in classes.items():
                inner = definitions(found[word].body, ast.FunctionDef)
                for method, words in methods.items():
                    self.assertEqual(parameters(inner[method]), words, f"{name}.{word}.{method}")
                self.assertEqual(found[word].bases, [])

    def test_objects_are_not_iterated_over_and_have_properties(self):
        tally = importlib.import_module("tallyhouse.tallies").Tally
        piece = importlib.import_module("tallyhouse.pieces").Piece
        rewriter = importlib.import_module("tallyhouse.rewriters").Rewriter
        book = importlib.import_module("tallyhouse.prices").Book
        house = importlib.import_module("tallyhouse.house").House
        till = importlib.import_module("tallyhouse.sales").Till
        console = importlib.import_module("tallyhouse.console").Console
        for made in (tally, piece, rewriter, book, house, till, console):
            self.assertFalse(hasattr(made, "__iter__") or hasattr(made, "__getitem__"))
        self.assertIsInstance(inspect.getattr_static(rewriter, "read"), classmethod)
        self.assertIsInstance(inspect.getattr_static(tally, "is_count"), property)
        self.assertIsInstance(inspect.getattr_static(piece, "worth_now"), property)
        self.assertIsInstance(inspect.getattr_static(tally, "read"), classmethod)
        self.assertIsInstance(inspect.getattr_static(house, "of"), classmethod)
        self.assertIsInstance(inspect.getattr_static(till, "of"), classmethod)
        self.assertIsInstance(inspect.getattr_static(till, "tariff"), property)
