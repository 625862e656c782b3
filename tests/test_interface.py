"""Point [22]: each name stands where the document lists it, with its parameters."""

import importlib
import inspect
import unittest

FUNCTIONS = {
    "plans": [
        "all_waits(plan)", "waits_for(plan, one, other)", "in_row(plan, one, other)", "row_pairs(plan)",
        "needless_pairs(plan)", "plain_plan(plan)", "with_pair(plan, one, other)",
        "without_pair(plan, one, other)", "turned(plan)", "only(plan, some)", "beside(one, other)",
        "behind(one, other)",
    ],
    "times": [
        "is_durations(plan, thing)", "time_of(plan, durations)", "ends(plan, durations)",
        "begins(plan, durations)", "latest_begins(plan, durations)", "slacks(plan, durations)",
        "critical(plan, durations)", "longest_row(plan, durations)",
        "is_longest_row(plan, durations, thing)", "how_many_longest(plan, durations)",
        "at_work(plan, durations, moment)", "most_at_once(plan, durations)",
    ],
    "rows": [
        "is_row(plan, some)", "is_lot(plan, some)", "great_rows(plan)", "great_lots(plan)", "longest(plan)",
        "width(plan)", "heights(plan)", "rows_over(plan, some)", "lots_over(plan, some)",
        "is_parting_in_rows(plan, some, thing)", "is_parting_in_lots(plan, some, thing)",
    ],
    "factor": [
        "row_and_side(one, other)", "factor(one, other)", "lot_against(one, other, number)",
        "is_lot_against(one, other, number, thing)", "partings(one, other, number)",
        "is_partings(one, other, number, thing)", "durations_against(one, other, number)",
        "is_durations_against(one, other, number, thing)", "as_long(one, other, durations)",
    ],
    "alike": [
        "longer_at(one, other)", "is_longer_at(one, other, thing)", "never_longer(one, other)",
        "alike(one, other)", "forced(plan, one, other)", "how_many_alike(plan)", "all_alike(plan)",
    ],
    "bounded": [
        "is_limits(plan, thing)", "is_within(plan, limits, thing)", "durations_late(one, other, limits)",
        "most_late(one, other, limits)", "least_late(one, other, limits)", "never_late(one, other, limits)",
        "is_durations_late(one, other, limits, thing)", "durations_apart(one, other, limits, number)",
    ],
    "whenever": [
        "always_with(plan, one, other)", "off_durations(plan, one, other)",
        "is_off_durations(plan, one, other, thing)", "always_critical(plan)", "twins(plan)",
        "row_past(plan, some)", "is_row_past(plan, some, thing)", "one_surely(plan, some)",
        "fewest_guards(plan)", "is_fewest_guards(plan, thing)", "apart_rows(plan)",
        "is_apart_rows(plan, thing)",
    ],
    "joins": [
        "put_into(plan, work, inner)", "together(one, other)", "common_waits(one, other)",
        "most_with(one, other, work)",
    ],
    "fewer": [
        "fewest_left_out(one, other, number)", "fewest_put_in(one, other, number, offers)",
        "telling_pairs(one, other)", "helping_pairs(one, other)",
    ],
    "hidden": ["surveyed_rows(works, asker)", "surveyed(works, asker)"],
    "hands": [
        "begins_by(plan, durations, hands, order)", "time_by(plan, durations, hands, order)",
        "idle_by(plan, durations, hands, order)", "row_by(plan, durations, hands, order)",
        "is_row_by(plan, durations, hands, order, thing)", "least_time_by(plan, durations, hands)",
        "best_order(plan, durations, hands)", "hands_needed(plan)",
    ],
    "counts": [
        "is_order(plan, thing)", "how_many_orders(plan)", "nth_order(plan, number)",
        "number_of_order(plan, order)", "first_place(plan, name)", "last_place(plan, name)",
        "how_many_at(plan, name, place)", "how_many_ahead(plan, one, other)",
    ],
    "sums": [
        "added(one, other)", "lost(plan, several)", "common_row(plan, several)",
        "is_common_row(plan, several, thing)", "first_critical(plan, durations, name)",
        "cut_price(plan, durations, prices)", "cheapest_cut(plan, durations, prices)",
        "is_cheapest_cut(plan, durations, prices, thing)",
    ],
    "texts": [
        "works_text(works)", "pairs_text(pairs)", "durations_text(durations)", "works_from(text)",
        "pairs_from(text)", "durations_from(text)", "lines_of(plan, durations)",
    ],
    "desk": ["answers(text)"],
}
CLASSES = {
    "plans": {"Plan": ["__init__(self, works, pairs=())", "of(text)", "__len__(self)"]},
    "hidden": {
        "Survey": [
            "__init__(self, works)", "tell(self, durations, time)", "back(self)", "twin(self)", "a_plan(self)",
            "fits(self, plan)", "how_many(self)", "in_row(self, one, other)", "span(self, durations)",
            "__len__(self)",
        ],
    },
    "changes": {
        "Watch": [
            "__init__(self, plan, durations)", "last(self, name, number)", "wait(self, one, other)",
            "free(self, one, other)", "add(self, name, number)", "drop(self, name)", "back(self)", "twin(self)",
            "__len__(self)",
        ],
    },
    "ranks": {
        "Table": [
            "__init__(self, rows)", "factor_of(self, name, other)", "all_factors(self)",
            "is_never_longer(self, name, other)", "all_pairs(self)", "below(self, name)", "above(self, name)",
            "next_below(self, name)", "next_above(self, name)", "ties(self)", "chain(self)", "apart(self)",
            "layers(self)", "__len__(self)",
        ],
    },
    "board": {
        "Board": [
            "__init__(self)", "put(self, name, plan)", "drop(self, name)", "rename(self, name, new)",
            "wait(self, name, one, other)", "free(self, name, one, other)", "undo(self)", "twin(self)",
            "time_of(self, name, durations)", "never_longer(self, name, to)", "factor(self, name, to)",
            "never_beaten(self)", "__len__(self)",
        ],
    },
}
METHODS = {
    "Plan": ["__len__", "__contains__", "__eq__"],
    "Survey": [
        "__len__", "__eq__", "tell", "back", "twin", "a_plan", "fits", "how_many", "in_row", "span",
    ],
    "Watch": ["__len__", "__eq__", "last", "wait", "free", "add", "drop", "back", "twin"],
    "Table": [
        "__len__", "__contains__", "__getitem__", "__eq__", "factor_of", "all_factors", "is_never_longer", "all_pairs",
        "below", "above", "next_below", "next_above", "ties", "chain", "apart", "layers",
    ],
    "Board": [
        "__len__", "__contains__", "__getitem__", "__eq__", "put", "drop", "rename", "wait", "free", "undo", "twin",
        "time_of", "never_longer", "factor", "never_beaten",
    ],
}
PROPERTIES = {
    "Plan": ["works", "pairs", "text"], "Survey": ["works", "told"],
    "Watch": ["plan", "durations", "time", "told"], "Table": ["names"],
    "Board": ["names", "deeds"],
}
STATIC = {"Plan": ["of"]}


class Interface(unittest.TestCase):
    def test_functions(self):
        for file, listed in FUNCTIONS.items():
            module = importlib.import_module("lateplans." + file)
            for line in listed:
                name = line[:line.index("(")]
                found = vars(module)[name]
                self.assertTrue(inspect.isfunction(found), name)
                self.assertEqual(found.__module__, module.__name__)
                self.assertEqual(name + str(inspect.signature(found)), line)

    def test_classes(self):
        for file, listed in CLASSES.items():
            module = importlib.import_module("lateplans." + file)
            for word, lines in listed.items():
                kind = vars(module)[word]
                self.assertEqual(kind.__module__, module.__name__)
                for line in lines:
                    name = line[:line.index("(")]
                    self.assertIn(name, vars(kind))
                    self.assertEqual(name + str(inspect.signature(getattr(kind, name))), line)
                for name in METHODS[word]:
                    self.assertTrue(inspect.isfunction(vars(kind)[name]), name)
                for name in STATIC.get(word, []):
                    self.assertIsInstance(vars(kind)[name], staticmethod)
                for name in PROPERTIES[word]:
                    self.assertIsInstance(vars(kind)[name], property)
                    self.assertIsNone(vars(kind)[name].fset)


if __name__ == "__main__":
    unittest.main()
