"""The interface: each function and class is defined in the file under which it is listed, with its arguments."""

import importlib
import inspect
import unittest

INTERFACE = {
    "errors": {
        "BadText": ("token", "reason"), "BadRule": ("function", "statement", "reason"), "BadRun": ("step",),
        "BadPaper": ("node",), "BadEdit": ("reason",), "BadJournal": ("place",), "BadArgument": ("reason",),
    },
    "reading": {"parse_text": ("text",), "parse_program": ("text",)},
    "writing": {"program_text": ("program",), "function_text": ("function",)},
    "rules": {"rule_fault": ("program",), "variables": ("program", "function")},
    "graphs": {"graph": ("program", "function"), "places": ("program", "function")},
    "states": {
        "first_state": ("program", "function"), "after": ("program", "function", "state", "node", "outcome"),
        "used_at": ("program", "function", "node"), "accessed_at": ("program", "function", "node"),
        "cleared_at": ("program", "function", "node"), "put_at": ("program", "function", "node"),
    },
    "runs": {
        "replay": ("program", "function", "outcomes", "run"), "all_runs": ("program", "function", "outcomes", "most"),
    },
    "summaries": {"outcomes": ("program",), "summary": ("program", "function")},
    "facts": {"facts": ("program", "function")},
    "check": {
        "check": ("program",), "region": ("program", "function", "node"), "drops": ("program", "function"),
    },
    "shortest": {"shortest": ("program", "problem")},
    "papers": {"make_paper": ("program",), "check_paper": ("program", "paper")},
    "cells": {"make_code": ("program",)},
    "machine": {"run": ("program", "codes", "name", "choices", "most")},
    "workspace": {"Workspace": ()},
    "journal": {"replay_journal": ("text",)},
}
METHODS = {
    "put": ("text",), "remove": ("name",), "undo": (), "program": (), "text": (), "report": ("name",), "journal": (),
}


class Interface(unittest.TestCase):
    def test_names_and_arguments(self):
        for file, names in INTERFACE.items():
            module = importlib.import_module("loancheck." + file)
            for name, arguments in names.items():
                found = getattr(module, name)
                self.assertEqual(found.__module__, "loancheck." + file, name)
                self.assertEqual(tuple(inspect.signature(found).parameters), arguments, name)

    def test_methods_of_the_workspace(self):
        """Each is defined in the class itself."""
        found = vars(importlib.import_module("loancheck.workspace").Workspace)
        for name, arguments in METHODS.items():
            self.assertEqual(tuple(inspect.signature(found[name]).parameters), ("self", *arguments), name)

    def test_errors(self):
        module = importlib.import_module("loancheck.errors")
        for name in INTERFACE["errors"]:
            self.assertEqual(getattr(module, name).__bases__, (module.LoanError,), name)
        self.assertEqual(module.LoanError.__bases__, (ValueError,))


if __name__ == "__main__":
    unittest.main()
