"""The interface: names and arguments as the document has them."""

import importlib
import inspect
import unittest

INTERFACE = {
    "masks": {
        "hands_in": "group", "many_in": "group", "group_of": "hands", "within": "one, other", "groups_in": "group",
    },
    "tables": {
        "table_of": "numbers", "hand_count": "table", "everybody": "table", "row_gives": "row, group",
        "added": "one, other", "scaled": "many, table", "row_table": "row", "less_row": "table, row",
        "mirror": "table", "kept_to": "table, group", "behind": "table, group", "by_numbers": "table, order",
    },
    "falling": {
        "break_of": "table", "rise_break": "table", "falls": "table", "rises": "table",
        "two_break": "table, one, other", "flat_row": "table",
    },
    "makers": {
        "from_covers": "hands, covers", "from_cuts": "hands, cuts", "from_steps": "steps", "from_lines": "lines",
        "bounded": "table, row",
    },
    "shares": {
        "over": "table, shares", "is_under": "table, shares", "is_base": "table, shares",
        "room_of": "table, shares, hand", "way_room": "table, shares, grows, falls",
        "full_groups": "table, shares", "core_of": "table, shares, hand",
    },
    "orders": {"by_order": "table, order", "raised": "table, shares, bounds, order=None"},
    "prices": {
        "price_order": "prices", "price_chain": "prices", "worth_at": "table, prices", "weight_of": "shares, prices",
        "best_base": "table, prices", "is_best": "table, prices, shares", "break_prices": "table",
    },
    "cheapest": {
        "cost_with": "table, prices, group", "least_cost": "table, prices", "cheapest_groups": "table, prices",
        "cheapest": "table, prices", "entry_of": "table, prices, hand",
    },
    "rings": {"is_ring": "groups", "ring_of": "groups, hands", "ring_groups": "ring"},
    "parting": {"parting": "one, other", "fixed_hand": "table, hand, share", "common": "one, other"},
    "between": {"between": "low, high", "split_base": "one, other, shares"},
    "fractions": {
        "fraction": "top, bottom", "fraction_less": "one, other", "fraction_sum": "one, other",
        "fraction_times": "many, one",
    },
    "fairest": {
        "density": "table, weights, group", "fair_steps": "table, weights=None", "fairest": "table, weights=None",
        "shows_fairest": "table, weights, shares, steps",
    },
    "mixes": {
        "mix_row": "table, mix", "mix_size": "mix", "is_mix": "table, shares, mix", "mixed": "table, shares",
    },
    "means": {"all_orders": "hands", "mean_row": "table"},
    "papers": {
        "shows_cheapest": "table, prices, group, cost, shares", "shows_best": "table, prices, number, shares",
        "shows_common": "one, other, number, shares, group", "shows_between": "low, high, shares",
        "shows_bar": "low, high, group", "made_for": "hands, paper",
    },
    "examiner": {"answered": "ask", "shown": "ask, answer, paper"},
    "reading": {
        "read_page": "text", "number_in": "word, figures", "table_named": "page, name", "ask_of": "page, row",
    },
    "report": {
        "answer_text": "page, ask, answer", "paper_text": "page, paper", "read_answer": "page, ask, row",
        "read_paper": "page, row", "report": "text", "judged": "text, rows",
    },
}


class InterfaceTest(unittest.TestCase):
    def test_names_and_arguments(self):
        for module, functions in INTERFACE.items():
            for name, arguments in functions.items():
                with self.subTest(f"{module}.{name}"):
                    function = getattr(importlib.import_module(f"groupcost.{module}"), name)
                    self.assertEqual(", ".join(map(str, inspect.signature(function).parameters.values())), arguments)

    def test_page(self):
        page = importlib.import_module("groupcost.reading").read_page("hands a\ntable t\nask falls t")
        self.assertEqual(sorted(vars(page)), ["asks", "names", "tables"])
        for value in vars(page).values():
            self.assertIs(type(value), list)


if __name__ == "__main__":
    unittest.main()
