import importlib
import inspect
import unittest

FUNCTIONS = {
    "messages": {"plain": 1, "size_of": 1, "kinds_of": 1, "cases_of": 1, "other_of": 1, "inner_messages": 1},
    "notation": {"format_message": 1, "parse_message": 1},
    "languages": {"category_of": 2, "relation_holds": 2, "condition_holds": 2, "format_language": 1,
                  "parse_language": 1},
    "sets": {"settled": 2, "contains": 2, "is_empty": 1, "is_within": 2, "union": 2, "common": 2, "difference": 2,
             "complement": 1, "least": 1, "single": 1, "range_set": 2, "moved": 2, "relation_set": 1,
             "condition_set": 1, "category_sets": 1},
    "shown": {"shown": 3, "counted": 3},
    "diagrams": {"diagram_of": 2, "restricted": 3, "text_at": 2, "many_nodes": 1},
    "alike": {"joined_kinds": 2, "are_alike": 3, "telling_arguments": 3, "word_at": 1},
    "lacking": {"needless": 2, "reachable": 2, "lacks": 2},
    "simple": {"trimmed": 2, "simplified": 2, "shorter_messages": 1},
    "samples": {"sample": 3, "samples": 2, "fewest_samples": 2, "ways_taken": 3, "covers": 3},
    "catalogs": {"message_faults": 2, "catalog_faults": 2, "same_groups": 2},
    "rewrites": {"is_safe": 3, "counter_example": 3, "filled": 2},
    "edits": {"message_at": 2, "replaced": 3},
    "journal": {"record_of": 1, "recovered": 1, "opened": 2},
}
# By modules and classes: how many arguments the class takes, and each method besides the object itself.
CLASSES = {
    ("languages", "Language"): (1, {}),
    ("edits", "Book"): (0, {"messages": 0, "put": 2, "drop": 1, "change": 3, "undo": 0}),
    ("journal", "Device"): (2, {"append": 1}),
    ("journal", "JournaledBook"): (2, {"perform": 1}),
}


def many_parameters(function):
    return len(inspect.signature(function).parameters)


class InterfaceTest(unittest.TestCase):
    def test_functions(self):
        for name, functions in FUNCTIONS.items():
            module = importlib.import_module("messageways." + name)
            for function, many in functions.items():
                found = getattr(module, function)
                self.assertEqual(found.__module__, module.__name__, function)
                self.assertEqual(many_parameters(found), many, function)

    def test_classes(self):
        for (name, kind), (many, methods) in CLASSES.items():
            found = getattr(importlib.import_module("messageways." + name), kind)
            self.assertEqual(found.__module__, "messageways." + name)
            self.assertEqual(many_parameters(found), many, kind)
            for method, arguments in methods.items():
                self.assertEqual(many_parameters(found.__dict__[method]) - 1, arguments, method)


if __name__ == "__main__":
    unittest.main()
