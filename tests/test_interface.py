import importlib
import inspect
import unittest

# Each name of the interface with its number of arguments, all by their places.
FUNCTIONS = {
    "wholes": {"is_whole": 1, "is_time": 1},
    "books": {"made_book": 2, "meetings_of": 2, "by_time": 2},
    "changes": {"without": 2, "moved_to": 3, "part_of": 3, "turned": 2},
    "letters": {"is_letter": 2},
    "chains": {"is_chain": 3, "arrival": 3, "walkers_along": 3},
    "walls": {"earliest_times": 3, "earliest": 2, "bars": 3},
    "leavings": {"leavings": 3, "latest": 2, "bars_back": 3},
    "hands": {"giving_rows": 3, "fewest": 2},
    "missed": {"lost": 3, "stands": 2},
    "alike": {"parting": 2, "thinned": 1},
    "plans": {"plan_worth": 4},
    "cuts": {"cut_worth": 4},
    "sacks": {"carried": 3},
    "runs": {"run": 3},
    "trees": {"tree_serves": 5},
    "prices": {"price_told": 5},
    "spreads": {"spread": 4},
    "days": {"again_times": 4, "again_chain": 5, "hangs_with": 2},
    "waits": {"waits": 4},
    "receipts": {"receipts": 3},
    "newest": {"newest": 2, "all_hear": 3},
    "claims": {"is_claim": 2},
    "papers": {"takes": 3},
    "texts": {"is_name": 1, "show_all": 3, "read_all": 1},
}
CLASSES = {
    "streams": {"Stream": {"__init__": 2, "tie": 4, "send": 3, "sent": 2, "near": 1}},
    "trips": {"Trip": {"__init__": 3, "do": 2, "having": 2, "bag": 2, "come": 2, "done": 1}},
    "rules": {"AllMet": {"__init__": 1, "at_first": 1, "share": 5}, "Halves": {"__init__": 2, "at_first": 1, "share": 5},
              "Nearer": {"__init__": 2, "at_first": 1, "share": 5}},
    "desk": {"Desk": {"__init__": 1, "say": 2}},
}


class Interface(unittest.TestCase):
    def test_functions(self):
        for module, functions in FUNCTIONS.items():
            for name, many in functions.items():
                function = getattr(importlib.import_module("satchelmeet." + module), name)
                self.assertEqual(len(inspect.signature(function).parameters), many, name)

    def test_classes(self):
        for module, classes in CLASSES.items():
            for name, methods in classes.items():
                kind = getattr(importlib.import_module("satchelmeet." + module), name)
                for method, many in methods.items():
                    self.assertEqual(len(inspect.signature(getattr(kind, method)).parameters), many, (name, method))

    def test_rules_are_right_under_rule(self):
        rules = importlib.import_module("satchelmeet.rules")
        for kind in (rules.AllMet, rules.Halves, rules.Nearer):
            self.assertEqual(kind.__bases__, (rules.Rule,))


if __name__ == "__main__":
    unittest.main()
