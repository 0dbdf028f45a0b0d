"""[9.1], [9.3]: the forms of the parts of asks, answers and papers."""

import unittest

from groupcost.forms import answer_forms, ask_forms, paper_forms, part_fits, parts_fit
from samples import HUGE

# Parts that fit a form, for two hands; each of them fits no form but those under which it stands.
FITTING = {
    "word": ["yes", "no"],
    "number": [0, 3, 4, -1, HUGE],
    "group": [0, 3],
    "row": [[0, -1], [HUGE, 5]],
    "fractions": [[(1, 2), (-3, 1)], [(0, 1), (0, 1)]],
    "mix": [[], [([0, 1], 1)], [([1, 0], 0), ([1, 0], -HUGE)]],
    "steps": [[], [(0, (1, 2))], [(3, (-1, 2)), (1, (0, 1))]],
}
FITTING_NONE = [
    None, True, False, "", "Yes", "maybe", (), (1, 2), [1], [1, 2, 3], [True, 1], [1, None], [(1, 2)],
    [(1, 2), (1, 2), (1, 2)], [(2, 4), (1, 2)], [(1, 2), (1, 0)], [(1, 2), 1], ((1, 2), (1, 2)), [([0, 1],)],
    [([0], 1)], [([0, 1], True)], [([0, 1], None)], [((0, 1), 1)], [([0, 1], 1), 5], [(4, (1, 2))], [(-1, (1, 2))],
    [(0, (2, 2))], [(0, 1, 2)], [(0, (1, 2)), ([0, 1], 1)], {},
]


class FormsTest(unittest.TestCase):
    def test_parts_that_fit(self):
        for form, parts in FITTING.items():
            for part in parts:
                self.assertIs(part_fits(2, form, part), True, (form, part))

    def test_parts_that_fit_no_form(self):
        for form in FITTING:
            for part in FITTING_NONE:
                self.assertIs(part_fits(2, form, part), False, (form, part))

    def test_parts_that_fit_another_form(self):
        for form, fitting in FITTING.items():
            for parts in FITTING.values():
                for part in parts:
                    # A group is a number, and some numbers are groups.
                    due = part in fitting or (form == "number" and part in FITTING["group"])
                    self.assertIs(part_fits(2, form, part), due, (form, part))

    def test_as_many_parts_as_forms(self):
        self.assertIs(parts_fit(2, ("group", "number"), (3, 8)), True)
        self.assertIs(parts_fit(2, (), []), True)
        for parts in ((), (3,), (3, 8, 8), (4, 8), (3, "8")):
            self.assertIs(parts_fit(2, ("group", "number"), parts), False)

    def test_kinds(self):
        asks = ["falls", "cheapest", "best", "base", "common", "between", "fairest"]
        papers = ["break", "dues", "base", "group", "sum", "mix", "both", "row", "bar", "steps"]
        for kind in asks:
            self.assertEqual(ask_forms(kind)[0], "table")
            self.assertGreater(len(answer_forms(kind)), 0)
        for kind in papers:
            self.assertIs(type(paper_forms(kind)), tuple)
        for kind in ("", "none", "yes", "ask", "refused", "Falls"):
            self.assertIsNone(ask_forms(kind))
            self.assertIsNone(paper_forms(kind))


if __name__ == "__main__":
    unittest.main()
