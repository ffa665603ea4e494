"""The names of the interface, with their arguments, in the files under which it lists them."""

import ast
import unittest
from importlib import import_module
from pathlib import Path

PACKAGE = Path(__file__).resolve().parent.parent / "kerbside"
FUNCTIONS = {
    "ratios": {"ratio": "n d", "is_ratio": "pair", "of_int": "n", "plus": "first second", "minus": "first second",
               "times": "first second", "over": "first second", "negated": "first", "compare": "first second",
               "sign_of": "first", "floor_of": "first", "ratio_text": "first", "read_ratio": "text"},
    "rows": {"check_row": "row", "zero_row": "width", "unit_row": "width index", "add_rows": "first second",
             "product": "first second", "scale_row": "factor row", "row_of_ints": "numbers", "value_at": "form row",
             "add_forms": "first second", "scale_form": "factor form"},
    "papers": {"check_system": "system", "keeps": "condition row", "is_history": "system row",
               "mixture": "system multipliers", "check_paper": "system form paper"},
    "solve": {"greatest": "system form"},
    "follow": {"history_of": "system", "span": "system form", "certain": "system condition",
               "fixed_values": "system", "possible": "system condition", "spare_conditions": "system",
               "slim": "system"},
    "scales": {"check_paper": "paper", "check_drawer": "drawer", "is_scale": "text",
               "recalled": "drawer index day", "counting": "drawer scale day", "drawer_of": "papers recalls"},
    "weighings": {"ends": "drawer scale day reading", "readings": "drawer scale day weight",
                  "allows": "drawer scale day reading weight", "check_weighing": "weighing",
                  "weighing_conditions": "drawer weighing places width"},
    "yards": {"check_yard": "yard", "lots_of": "yard", "present": "yard", "width_of": "yard",
              "unknown": "yard lot household", "yard_conditions": "yard", "reaches": "yard lot", "yard_text": "yard",
              "read_yard": "text"},
    "questions": {"form_of": "yard terms", "system_of": "yard evidence", "answer_of": "yard evidence question",
                  "check_answer": "yard evidence question answer"},
    "tables": {"content_spans": "yard evidence", "weight_spans": "yard evidence", "certain_weights": "yard evidence"},
    "finds": {"check_finds": "yard finds", "ways": "yard household", "open_ways": "yard finds household",
              "with_find": "yard finds lot has"},
    "sources": {"explanations": "yard finds", "fewest": "yard finds", "least_ones": "yard finds",
                "can_be": "yard finds", "must_be": "yard finds", "cannot_be": "yard finds",
                "best_search": "yard finds"},
    "reasons": {"reason": "yard finds household", "check_reason": "yard finds household paper"},
    "entries": {"check_entry": "entry", "entry_text": "entry", "read_entry": "text"},
    "book": {"load_book": "text"},
    "bills": {"amount_of": "price weight", "bill_of": "system form price", "check_bill": "system form bill"},
    "accounts": {"load_accounts": "text"},
    "evidence": {"conditions_of": "yard book", "finds_of": "yard book"},
    "lines": {"read_command": "line"},
    "desk": {"run_script": "script"},
}
METHODS = {
    ("book", "Book"): {"__init__": "", "add": "entry", "correct": "number entry", "withdraw": "number",
                       "restore": "number", "size": "", "standing": "", "stands": "number", "versions": "number",
                       "evidence": "", "of_kind": "kind", "image": ""},
    ("accounts", "Accounts"): {"__init__": "prices", "price": "household", "set_price": "household price",
                               "settle": "weights", "balance": "household", "notes": "", "image": ""},
}
CONSTANTS = {"ratios": {"MAX_TEXT": 60}, "rows": {"MAX_WIDTH": 24}, "papers": {"MAX_CONDITIONS": 40},
             "scales": {"MAX_DAY": 999, "MAX_PAPERS": 12}, "yards": {"MAX_HOUSEHOLDS": 4, "MAX_LOTS": 8},
             "entries": {"KINDS": ("find", "known", "paper", "recall", "weighing")},
             "book": {"MAX_RECORDS": 30, "MAX_VERSIONS": 6}, "bills": {"MAX_PRICE": 999},
             "accounts": {"HOUSEHOLDS": 4, "MAX_NOTES": 200}}
CLASSES = {"errors": ("KerbError", "NotAllowed", "BadForm", "BadPaper", "Missing", "Never", "Endless", "Full"),
           "book": ("Book",), "accounts": ("Accounts",)}


def parsed(module):
    return ast.parse((PACKAGE / f"{module}.py").read_text(encoding="ascii"))


class InterfaceTest(unittest.TestCase):
    def test_functions(self):
        for module, functions in FUNCTIONS.items():
            defined = {node.name: [part.arg for part in node.args.args] for node in parsed(module).body
                       if isinstance(node, ast.FunctionDef)}
            for name, arguments in functions.items():
                self.assertEqual(defined.get(name), arguments.split(), (module, name))

    def test_classes(self):
        for module, names in CLASSES.items():
            defined = [node.name for node in parsed(module).body if isinstance(node, ast.ClassDef)]
            for name in names:
                self.assertIn(name, defined)

    def test_methods(self):
        for (module, name), methods in METHODS.items():
            body = next(node.body for node in parsed(module).body if isinstance(node, ast.ClassDef)
                        and node.name == name)
            defined = {node.name: [part.arg for part in node.args.args] for node in body
                       if isinstance(node, ast.FunctionDef)}
            for method, arguments in methods.items():
                self.assertEqual(defined.get(method), ["self"] + arguments.split(), (name, method))

    def test_constants(self):
        for module, constants in CONSTANTS.items():
            for name, worth in constants.items():
                self.assertEqual(getattr(import_module(f"kerbside.{module}"), name), worth)


if __name__ == "__main__":
    unittest.main()
