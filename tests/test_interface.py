"""The interface at the end of the document: which file defines what."""

import ast
import pathlib
import unittest

PACKAGE = pathlib.Path(__file__).resolve().parent.parent / "heardsince"

FUNCTIONS = {
    "calendars": {
        "is_calendar": "village thing", "is_slates": "village thing", "slates_of": "village calendar",
        "calendar_of": "village slates", "are_alike": "village one other", "has_heard": "village slates one other",
        "heard_of": "village slates person", "heard_by": "village slates person",
        "heard_ahead": "village calendar many"},
    "tables": {
        "table": "village slates", "is_table": "village thing", "count_slates": "village",
        "slates_at": "village number", "slates_number": "village slates", "turned": "village slates",
        "slates_hearing": "village person some"},
    "clashes": {"slates_of_table": "village table", "table_clash": "village table"},
    "peopletables": {"ties_of_table": "people table", "people_clash": "people table"},
    "ledgers": {"ledger": "village slates", "fame": "village slates"},
    "ledgerbreaks": {
        "slates_of_ledger": "village ledger", "ledger_break": "village ledger", "slates_of_fame": "village fame",
        "fame_break": "village fame"},
    "begunledgers": {
        "begun_ledger": "village begun", "begun_of_ledger": "village ledger", "begun_break": "village ledger",
        "moments_fault": "village ledgers", "moments_calendar": "village ledgers"},
}
VILLAGE = {
    "__init__": "self people ties news", "people": "self", "ties": "self", "news": "self", "friends": "self person",
    "way": "self one other", "behind": "self one other", "__eq__": "self other"}


def parameters(function):
    names = function.args
    assert not (names.posonlyargs or names.kwonlyargs or names.vararg or names.kwarg or names.defaults)
    return " ".join(name.arg for name in names.args)


def defined(body):
    return {part.name: parameters(part) for part in body if isinstance(part, ast.FunctionDef)}


class Interface(unittest.TestCase):

    def tree(self, name):
        return ast.parse((PACKAGE / (name + ".py")).read_text())

    def test_functions_stand_in_their_files(self):
        for name, functions in FUNCTIONS.items():
            own = defined(self.tree(name).body)
            self.assertEqual({function: own.get(function) for function in functions}, functions)

    def test_village_stands_in_its_file_with_its_methods(self):
        classes = [part for part in self.tree("villages").body if isinstance(part, ast.ClassDef)]
        self.assertEqual([one.name for one in classes], ["Village"])
        own = defined(classes[0].body)
        self.assertEqual({method: own.get(method) for method in VILLAGE}, VILLAGE)
