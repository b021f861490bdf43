"""The interface: names, arguments, where they are defined, and what is passed by position and by keyword."""

import importlib
import inspect
import unittest

FUNCTIONS = {
    "forms": {"measured": "name, *, low, high"},
    "players": {"sure": "card, *, told=()", "winner": "card, *, told=()"},
    "plays": {"follow": "player, moves", "broken": "card, values", "move_rows": "card", "plays": "card"},
    "plans": {"saving": "card, *, told=()", "plan": "card"},
    "derivations": {"derivation": "card", "derivation_holds": "card, lines", "core": "card"},
    "margins": {"widened": "card, *, by", "widest": "card"},
    "timing": {"moved": "card, name, *, to", "latest": "card, name", "taken": "card, turn, *, option",
               "put_off": "card, turn"},
    "holding": {"start": "steps", "advance": "steps, held, text", "finish": "steps, held"},
    "comparing": {"compare": "first, second, *, most"},
    "resting": {"rest": "steps, *, most_runs=4, most"},
    "words": {"remains": "steps, word, *, most"},
    "gains": {"excess": "first, second, catalog, *, letters, most",
              "table_holds": "first, second, catalog, table, *, letters"},
    "limits": {"is_limit": "value"},
    "changes": {"change_of": "changes, steps"},
    "orders": {name: "sheet, changes, names" for name in
               "orders_that_go order_count first_order sheet_after_all always_before clash freest".split()},
    "facts": {"opposites": "fact"},
    "bearing": {"sheets_of": "store, drawings, changes"},
    "binders": {"fits": "binder, store"},
    "answers": {"judge": "binder, fact", "witness": "binder, fact, *, holds", "stops": "binder, run"},
    "papers": {"paper_flaw": "paper", "papers": "binder, fact", "contradicts": "binder, paper"},
    "leasts": {"least": "binder"},
    "meetings": {"meeting": "binder, run, names", "parted_orders": "binder, run, names"},
    "parting": {"parting": "a, b", "smallest": "rules"},
    "releases": {"release_card": "office, run"},
    "joints": {"joined": "office, start, *, store=None, checked=True"},
    "replays": {"replay": "program, joint, name, choices, *, limit=100"},
    "tables": {"table": "program, joint", "goes_wrong": "program, joint, name"},
    "closed": {"first_open": "program, joint, facts", "first_unfounded": "program, joint, facts"},
    "guides": {"steps_to_wrong": "program, joint, name"},
    "likeness": {name: "program, joint, first, second" for name in ["alike", "part"]},
    "clearing": {name: "office, name, start" for name in
                 ["cleared", "wrong_events", "releasable", "verdict", "refusal"]},
    "clearances": {"clearance": "office, name, start", "clearance_holds": "office, name, start, facts"},
    "merging": {"merge_definitions": "names"},
    "reserves": {"widest_release": "office, name, start", "latest_release": "office, name, start, *, step",
                 "fewest_waivers": "office, name, start"},
    "exchange": {"eased": "office, *, by", "easing": "first, second, *, most",
                 "parting_office": "first, second, *, by, most"},
    "writing": {"write_" + name: name for name in ["limit", "fact", "binder", "program"]},
    "parsing": {"read_" + name: "text" for name in ["limit", "fact", "binder", "program"]},
}

CLASSES = {
    "forms": {"Form": "constant"}, "cards": {"Card": ""}, "players": {"Setter": "card", "Breaker": "card"},
    "lists": {"Steps": "steps"}, "catalogs": {"Catalog": "lengths"}, "sheets": {"Sheet": "limits"},
    "changes": {"Change": "lost=(), gained=(), *, kept=(), barred=()"},
    "stores": {"Store": "contents, starts, moves"}, "binders": {"Binder": "drawings, changes, facts"},
    "papers": {"Paper": "facts, claim, rows, traces"}, "rules": {"Rules": "events, moves, barred"},
    "routes": {"Route": "steps"}, "stocks": {"Stock": "catalog, steps, *, most_runs=4, most=1000"},
    "programs": {"Program": "definitions"},
    "offices": {"Office": "*, route, stock, binder, rules, program, waived=()"},
    "desks": {"Desk": "office", "Supposing": "desk, *, facts=(), waived=(), rules=None"},
}

METHODS = {
    ("forms", "Form"): {"value": "values"},
    ("cards", "Card"): {"measure": "name, *, low, high", "turn": "name, *, options", "part": "name",
                        "rule": "upper, lower, *, least, when=()", "back": "", "form": "name"},
    ("players", "Setter"): {"__call__": "told"},
    ("players", "Breaker"): {"__call__": "told"},
    ("lists", "Steps"): {"__call__": "text"},
    ("catalogs", "Catalog"): {"length": "text"},
    ("changes", "Change"): {"__call__": "sheet"},
    ("stores", "Store"): {"end": "run"},
    ("rules", "Rules"): {"next_state": "state, event", "__call__": "history"},
    ("routes", "Route"): {"widened": "*, by", "moved": "name, *, to", "late_rows": "", "late_run": "row"},
    ("stocks", "Stock"): {"length": "stack"},
    ("programs", "Program"): {"extended": "definitions"},
    ("offices", "Office"): {"replaced": "*, route=None, stock=None, binder=None, rules=None, program=None, waived=None"},
    ("joints", "Joint"): {"next_state": "state, event", "judged": "pairs"},
    ("desks", "Desk"): {"see": "fact", "waive": "limit", "bind": "rules", "teach": "definitions",
                        "ask": "name, start, *, facts=(), waived=(), rules=None"},
}

IN_THE_CLASS = {
    ("forms", "Form"): ["least", "most", "__add__", "__radd__", "__sub__", "__rsub__", "__mul__", "__rmul__",
                        "__neg__", "__eq__", "__le__", "__ge__"],
    ("cards", "Card"): ["acts", "steps", "rules", "__contains__"],
    ("players", "Setter"): ["steps"],
    ("players", "Breaker"): ["steps"],
    ("lists", "Steps"): ["of", "alphabet", "__add__", "__mul__", "__rmul__", "__len__", "__iter__", "__eq__"],
    ("catalogs", "Catalog"): ["letters", "__getitem__", "__iter__", "__contains__", "__add__", "__sub__", "__mul__",
                              "__rmul__", "__eq__"],
    ("sheets", "Sheet"): ["__iter__", "__len__", "__contains__", "__or__", "__and__", "__sub__", "__le__", "__eq__"],
    ("changes", "Change"): ["nowhere", "__contains__", "__add__", "__neg__", "__le__", "__eq__"],
    ("stores", "Store"): ["__eq__"],
    ("binders", "Binder"): ["__iter__", "__len__", "__add__"],
    ("rules", "Rules"): ["__len__", "__and__", "__or__", "__le__", "__lt__", "__ge__", "__gt__", "__eq__"],
    ("programs", "Program"): ["names", "__getitem__", "__contains__", "__iter__"],
    ("desks", "Supposing"): ["__enter__", "__exit__"],
}

PROPERTIES = {
    ("forms", "Form"): "least most", ("cards", "Card"): "acts steps rules", ("players", "Setter"): "steps",
    ("players", "Breaker"): "steps", ("lists", "Steps"): "alphabet", ("catalogs", "Catalog"): "letters",
    ("changes", "Change"): "lost gained kept barred touched is_void", ("stores", "Store"): "contents starts moves",
    ("binders", "Binder"): "drawings changes facts store sheets first_runs",
    ("papers", "Paper"): "facts claim rows traces", ("rules", "Rules"): "events moves barred",
    ("routes", "Route"): "steps", ("stocks", "Stock"): "catalog steps resting",
    ("programs", "Program"): "names", ("joints", "Joint"): "pairs events wrong",
    ("offices", "Office"): "route stock binder rules program waived", ("desks", "Desk"): "office",
}


def found(module, name):
    return getattr(importlib.import_module("drawingoffice." + module), name)


def arguments(action):
    return str(inspect.signature(action))[1:-1]


class Interface(unittest.TestCase):
    def test_functions(self):
        for module, functions in FUNCTIONS.items():
            for name, expected in functions.items():
                function = found(module, name)
                self.assertEqual(arguments(function), expected, name)
                self.assertEqual(function.__module__, "drawingoffice." + module)

    def test_classes(self):
        for module, classes in CLASSES.items():
            for name, expected in classes.items():
                self.assertEqual(arguments(found(module, name)), expected, name)
                self.assertEqual(found(module, name).__module__, "drawingoffice." + module)

    def test_methods_stand_in_the_class_itself(self):
        for (module, name), methods in METHODS.items():
            for method, expected in methods.items():
                told = arguments(vars(found(module, name))[method])
                self.assertEqual(told, ("self, " + expected).rstrip(", "), method)
        for (module, name), methods in IN_THE_CLASS.items():
            for method in methods:
                self.assertIn(method, vars(found(module, name)))

    def test_properties(self):
        for place, names in PROPERTIES.items():
            for name in names.split():
                self.assertIsInstance(vars(found(*place))[name], property)

    def test_one_player_is_not_the_other(self):
        setter, breaker = found("players", "Setter"), found("players", "Breaker")
        self.assertFalse(issubclass(setter, breaker) or issubclass(breaker, setter))

    def test_keywords_are_not_taken_by_position(self):
        card, widened = found("cards", "Card")(), found("margins", "widened")
        for call in [lambda: found("players", "sure")(card, []), lambda: card.measure("m", 0, 1),
                     lambda: card.turn("t", 2), lambda: card.rule("p", "q", 1), lambda: widened(card, 1)]:
            self.assertRaises(TypeError, call)


if __name__ == "__main__":
    unittest.main()
