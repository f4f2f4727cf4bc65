"""The names and arguments that the document's interface lists, each in its own file."""

import importlib
import inspect
import unittest

FUNCTIONS = {
    "tokens": {"tokenize": ["text"]},
    "reading": {"read_book": ["text"]},
    "printing": {"print_body": ["body"], "print_pact": ["pact"], "print_book": ["book"]},
    "linking": {"link": ["book", "name"]},
    "meaning": {
        "may_end": ["body"], "steps_of": ["body"], "is_run": ["body", "actions"], "is_complete": ["body", "actions"],
    },
    "tables": {
        "graph_of": ["body"], "table_of": ["body"], "least": ["table"], "difference": ["one", "other"],
        "walk": ["table", "actions"],
    },
    "views": {
        "parties_of": ["table"], "view": ["actions", "party"], "machine_of": ["table", "party"],
        "hide": ["table", "party"], "fits": ["table", "actions"],
    },
    "joining": {"joint_states": ["table"]},
    "checking": {"check": ["table"], "unready": ["table"]},
    "judging": {"judge": ["table", "certificate"]},
    "journals": {"record": ["kind", "other", "label", "number"], "read_records": ["text"]},
    "parties": {"recover": ["name", "machine", "journal"]},
    "plays": {"play_of": ["table"]},
    "refining": {
        "refining_fault": ["first", "second", "party"],
        "judge_refining": ["first", "second", "party", "certificate"],
    },
    "conducting": {"conduct": ["table", "conductor"]},
    "auditing": {"audit": ["journals"]},
    "slimming": {"slim": ["party"], "recover_slots": ["name", "machine", "old", "new"]},
    "papers": {"write_paper": ["certificate"], "read_paper": ["text"]},
    "combining": {"beside": ["one", "other"], "behind": ["one", "other"]},
    "guiding": {"distances": ["table"], "homeward": ["table", "state"], "finish": ["play", "table"]},
    "tidying": {"tidy": ["body"]},
    "storing": {"write_table": ["table"], "read_table": ["text"]},
}

# The arguments of a class are those of its __init__.
CLASSES = {
    "parties": {
        "Party": {
            "__init__": ["name", "machine"], "post": ["taker", "label"], "withdraw": [], "again": [], "take": ["sender"],
            "hear": ["message"], "can": [], "rests": [], "waits": [], "offers": [], "at": [], "journal": [],
        },
    },
    "plays": {
        "Play": {
            "__init__": ["machines"], "do": ["move"], "net": [], "taken": [], "names": [], "can": ["party"],
            "rests": ["party"], "waits": ["party"], "at": ["party"], "journal": ["party"], "at_rest": [],
            "settle": ["numbers"], "quieten": [], "offer": ["sender", "taker", "label"],
        },
    },
    "watching": {"Watch": {"__init__": ["table"], "see": ["action"], "seen": []}},
}


class TestInterface(unittest.TestCase):
    def test_functions_stand_in_their_files_with_their_arguments(self):
        for file, functions in FUNCTIONS.items():
            module = importlib.import_module("pactloom." + file)
            for name, arguments in functions.items():
                function = getattr(module, name)
                self.assertTrue(inspect.isfunction(function), name)
                self.assertEqual(function.__module__, "pactloom." + file)
                self.assertEqual(list(inspect.signature(function).parameters), arguments)

    def test_methods_stand_in_their_classes_with_their_arguments(self):
        for file, classes in CLASSES.items():
            module = importlib.import_module("pactloom." + file)
            for name, methods in classes.items():
                self.assertEqual(getattr(module, name).__module__, "pactloom." + file)
                for method, arguments in methods.items():
                    function = vars(getattr(module, name))[method]
                    self.assertEqual(list(inspect.signature(function).parameters), ["self"] + arguments, method)


if __name__ == "__main__":
    unittest.main()
