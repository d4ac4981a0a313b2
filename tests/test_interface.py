"""Each name of the interface stands in its file, with its arguments as written."""

import importlib
import inspect
import unittest

FUNCTIONS = {
    "words": {"is_word": ["value"], "is_integer": ["value"], "is_number": ["value"]},
    "books": {"mirrored_book": ["book"], "with_sayings": ["book", "sayings"]},
    "orders": {
        "check_order": ["book", "value"],
        "broken": ["book", "order"],
        "keeps": ["book", "order", "saying"],
        "is_order": ["book", "value"],
        "mirrored_order": ["order"],
    },
    "lexemes": {"lexemes": ["text"]},
    "booktexts": {
        "book_text": ["book"], "order_text": ["order"], "read_book": ["text"], "read_order": ["text"],
    },
    "laying": {"laid": ["book", "names"], "any_order": ["book"], "judge_stuck": ["book", "value"]},
    "following": {
        "follows": ["book", "saying"],
        "follow_paper": ["book", "saying"],
        "judge_follow": ["book", "saying", "value"],
        "against": ["book", "saying"],
        "lean_book": ["book"],
    },
    "deeds": {
        "done": ["book", "order", "deed"],
        "led": ["book", "order", "script"],
        "script_price": ["book", "script"],
        "taken_back": ["book", "order", "script"],
        "all_deeds": ["book", "order"],
    },
    "scripttexts": {"script_text": ["script"], "read_script": ["text"]},
    "plainwalks": {"walk_prices": ["book", "order"]},
    "rows": {
        "is_row": ["book", "orders", "value"],
        "row_price": ["book", "row"],
        "dearest_row": ["book", "orders"],
        "dearest_price": ["book", "orders"],
        "dearest_with": ["book", "orders", "row"],
    },
    "times": {"times": ["book", "orders"], "judge_times": ["book", "orders", "value"]},
    "thresholds": {
        "through": ["book", "orders", "name"],
        "without": ["book", "orders", "name"],
        "threshold": ["book", "orders", "name"],
        "standing": ["book", "orders"],
    },
    "rowscripts": {"row_script": ["book", "one", "other", "row"]},
    "leastprices": {
        "least_price": ["book", "one", "other"],
        "cheapest_script": ["book", "one", "other"],
        "price_paper": ["book", "one", "other"],
        "judge_price": ["book", "one", "other", "value"],
    },
    "nails": {
        "nailed_price": ["book", "one", "other", "names"],
        "nailed_script": ["book", "one", "other", "names"],
        "kept_cost": ["book", "one", "other", "name"],
    },
    "tables": {
        "is_table": ["value"],
        "all_tables": [],
        "renamed": ["table", "word"],
        "keeps_condition": ["order", "condition"],
        "kept_sayings": ["table", "side"],
        "table_of": ["sayings", "side"],
        "is_side_table": ["table", "side"],
    },
    "stocks": {
        "sides_of": ["stock"],
        "is_never_dearer": ["stock"],
        "saying_book": ["stock", "items", "conditions"],
    },
    "breaks": {
        "find_break": ["stock"],
        "judge_break": ["stock", "value"],
        "let_orders": ["items", "conditions"],
        "walked_price": ["items", "conditions", "one", "other"],
    },
    "choosing": {
        "is_next": ["book", "one", "other", "deed"],
        "next_deeds": ["book", "one", "other"],
        "is_between": ["book", "one", "other", "value"],
        "all_between": ["book", "one", "other"],
    },
    "tours": {
        "still_row": ["book", "orders"],
        "tour_price": ["book", "orders", "row"],
        "tour": ["book", "orders", "row"],
    },
    "together": {
        "is_together": ["side", "orders", "value"],
        "together_paper": ["side", "orders", "order"],
        "judge_together": ["side", "orders", "order", "value"],
        "count_together": ["side", "orders"],
        "together_at": ["side", "orders", "number"],
        "together_number": ["side", "orders", "order"],
    },
    "madebooks": {
        "least_sayings": ["side", "orders", "names", "name"],
        "book_of": ["side", "items", "orders"],
        "joined_book": ["one", "other"],
    },
    "rowcounts": {
        "count_rows": ["book", "orders"],
        "row_at": ["book", "orders", "number"],
        "row_number": ["book", "orders", "row"],
        "drawn_row": ["book", "orders", "number"],
        "count_with": ["book", "orders", "name"],
    },
    "pricelines": {
        "price_line": ["book", "one", "other", "name"],
        "least_at": ["book", "one", "other", "name", "price"],
    },
}
CLASSES = {
    "books": {
        "Book": {
            "__init__": ["self", "side", "items", "sayings"],
            "side": ["self"],
            "all_items": ["self"],
            "sayings": ["self"],
            "names": ["self"],
            "has_name": ["self", "value"],
            "price": ["self", "name"],
            "total": ["self"],
            "__eq__": ["self", "other"],
        },
    },
    "errors": {
        "OutError": {},
        "NoOrder": {"__init__": ["self", "stuck"]},
        "BadBook": {"__init__": ["self", "path"]},
        "BadOrder": {"__init__": ["self", "path"]},
        "BadDeed": {"__init__": ["self", "word"]},
        "BadScript": {"__init__": ["self", "number"]},
        "NotEqual": {},
        "Crossed": {"__init__": ["self", "one", "other"]},
        "TooGreat": {},
        "NothingDone": {},
        "BadText": {"__init__": ["self", "place"]},
        "BadAct": {"__init__": ["self", "word"]},
        "NameMissing": {},
        "UnknownName": {"__init__": ["self", "name"]},
    },
    "house": {
        "House": {
            "__init__": ["self", "book", "order"],
            "book": ["self"],
            "order": ["self"],
            "goal": ["self"],
            "nailed": ["self"],
            "owed": ["self"],
            "account": ["self"],
            "act_word": ["self", "act"],
            "do": ["self", "act"],
            "undo": ["self"],
            "redo": ["self"],
            "acts": ["self"],
            "mark": ["self", "name"],
            "since": ["self", "name"],
            "marks": ["self"],
            "next_deed": ["self"],
            "twin": ["self"],
        },
    },
    "console": {"Console": {"__init__": ["self", "house"], "answer": ["self", "line"]}},
}


def arguments(function):
    """The names of the parameters of a function."""
    return list(inspect.signature(function).parameters)


class TestInterface(unittest.TestCase):
    def test_functions(self):
        for file, functions in FUNCTIONS.items():
            module = importlib.import_module("takenout." + file)
            for name, expected in functions.items():
                function = getattr(module, name)
                self.assertTrue(inspect.isfunction(function), name)
                self.assertEqual(function.__module__, module.__name__, name)
                self.assertEqual(arguments(function), expected, name)

    def test_classes(self):
        for file, classes in CLASSES.items():
            module = importlib.import_module("takenout." + file)
            for name, methods in classes.items():
                told = getattr(module, name)
                self.assertEqual(told.__module__, module.__name__, name)
                for method, expected in methods.items():
                    self.assertEqual(arguments(vars(told)[method]), expected, f"{name}.{method}")


if __name__ == "__main__":
    unittest.main()
