"""The interface: names, arguments, and the file in which each is defined."""

import importlib
import inspect
import unittest

FUNCTIONS = {
    "marks": {
        "is_event": "(thing)",
        "better": "(one, other, way='less')",
        "best_of": "(marks, way='less', default=None)",
    },
    "joins": {
        "merged": "(book, one, other)",
        "joined": "(book, other)",
    },
    "lines": {
        "sheet_text": "(sheet)",
        "read_sheet": "(text)",
        "told_all": "(book, sheet, known=None)",
    },
}
CLASSES = {
    "rules": {
        "Rules": {
            "__init__": "(self, limits=None, up=True, wind=20, shares=True)",
            "__eq__": "(self, other)",
            "__len__": "(self)",
            "__repr__": "(self)",
            "classes_of": "(self, age)",
        },
    },
    "people": {
        "Person": {
            "__init__": "(self, name, born, group='open', team='')",
            "__eq__": "(self, other)",
            "__str__": "(self)",
            "__repr__": "(self)",
            "age_on": "(self, day)",
        },
    },
    "deeds": {
        "Deed": {
            "__init__": "(self, name, event, mark, day, hour=0, wind=0, course='yard')",
            "__eq__": "(self, other)",
            "__str__": "(self)",
            "__repr__": "(self)",
            "time": "(self)",
        },
    },
    "sheets": {
        "Sheet": {
            "__init__": "(self, deeds=None)",
            "__eq__": "(self, other)",
            "__len__": "(self)",
            "__str__": "(self)",
            "__repr__": "(self)",
            "at": "(self, place)",
            "plus": "(self, deed)",
            "all_deeds": "(self)",
            "by": "(self, word='time', backward=False)",
            "has": "(self, thing)",
        },
    },
    "book": {
        "Book": {
            "__init__": "(self, events, rules=None)",
            "__eq__": "(self, other)",
            "__len__": "(self)",
            "enrol": "(self, person)",
            "tell": "(self, deed, known=None)",
            "strike": "(self, number, known)",
            "restore": "(self, number, known)",
            "measure": "(self, course, since, till, known)",
            "uphold": "(self, course, known)",
            "undo": "(self)",
            "twin": "(self)",
            "state": "(self, number, known=None)",
            "stints": "(self, event, group=None, place=None, known=None)",
            "is_stints": "(self, thing, event, group=None, place=None, known=None)",
            "holders": "(self, event, group=None, place=None, day=None, known=None)",
            "why": "(self, number, event, group=None, place=None, known=None)",
            "to_break": "(self, event, group=None, place=None, day=None, known=None)",
            "bests_of": "(self, number)",
        },
    },
    "desk": {
        "Desk": {
            "__init__": "(self)",
            "say": "(self, line)",
        },
    },
}


class Interface(unittest.TestCase):

    def assert_defined(self, value, file, arguments):
        self.assertEqual(value.__module__, file.__name__)
        self.assertEqual(str(inspect.signature(value)), arguments)

    def test_functions(self):
        for name, functions in FUNCTIONS.items():
            file = importlib.import_module("bestsbook." + name)
            for function, arguments in functions.items():
                self.assert_defined(vars(file)[function], file, arguments)

    def test_classes(self):
        for name, classes in CLASSES.items():
            file = importlib.import_module("bestsbook." + name)
            for kind, methods in classes.items():
                self.assertEqual(vars(file)[kind].__module__, file.__name__)
                for method, arguments in methods.items():
                    # vars, for a method that is only inherited does not do.
                    self.assert_defined(vars(vars(file)[kind])[method], file, arguments)


if __name__ == "__main__":
    unittest.main()
