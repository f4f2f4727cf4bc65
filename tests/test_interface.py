"""The names and arguments that the document's interface lists, each in its own file."""

import importlib
import inspect
import unittest

FUNCTIONS = {
    "tokens": {"tokenize": ["text"]},
    "reading": {"read_book": ["text"]},
    "printing": {"print_body": ["body"], "print_pact": ["pact"], "print_book": ["book"]},
    "linking": {"link": ["book", "name"]},
    "meaning": {
        "may_end": ["body"], "steps_of": ["body"], "is_run": ["body", "actions"], "is_complete": ["body", "actions"],
    },
    "tables": {
        "graph_of": ["body"], "table_of": ["body"], "least": ["table"], "difference": ["one", "other"],
        "walk": ["table", "actions"],
    },
    "views": {
        "parties_of": ["table"], "view": ["actions", "party"], "machine_of": ["table", "party"],
        "hide": ["table", "party"], "fits": ["table", "actions"],
    },
    "joining": {"joint_states": ["table"]},
    "checking": {"check": ["table"], "unready": ["table"]},
    "judging": {"judge": ["table", "certificate"]},
    "journals": {"record": ["kind", "other", "label", "number"], "read_records": ["text"]},
}


class TestInterface(unittest.TestCase):
    def test_functions_stand_in_their_files_with_their_arguments(self):
        for file, functions in FUNCTIONS.items():
            module = importlib.import_module("pactloom." + file)
            for name, arguments in functions.items():
                function = getattr(module, name)
                self.assertTrue(inspect.isfunction(function), name)
                self.assertEqual(function.__module__, "pactloom." + file)
                self.assertEqual(list(inspect.signature(function).parameters), arguments)


if __name__ == "__main__":
    unittest.main()
