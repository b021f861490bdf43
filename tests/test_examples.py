"""The examples of the interface, as they are printed in the document."""

import doctest
import unittest

EXAMPLES = {
    "players": """
>>> from drawingoffice.cards import Card
>>> from drawingoffice.players import Setter, sure
>>> card = Card()
>>> card.part("p")
>>> card.turn("late", options=2)
>>> card.part("q")
>>> card.rule("q", "p", least=1)
>>> card.rule("frame", "q", least=-9, when=[("late", 0)])
>>> card.rule("frame", "q", least=-4, when=[("late", 1)])
>>> [sure(card), sure(card, told=[4]), Setter(card)([2, 1])]
[True, False, 3]
""",
    "derivations": """
>>> from drawingoffice.cards import Card
>>> from drawingoffice.derivations import derivation_holds
>>> card = Card()
>>> card.part("p")
>>> card.turn("t", options=2)
>>> card.rule("p", "frame", least=3, when=[("t", 0)])
>>> card.rule("frame", "p", least=-1, when=[("t", 1)])
>>> lines = [("rule", 0), ("free", 0, "t"), ("rule", 1), ("free", 2, "t"), ("join", 1, 3, "p")]
>>> [derivation_holds(card, lines), derivation_holds(card, lines[:4])]
[True, False]
""",
    "resting": """
>>> from drawingoffice.lists import Steps
>>> from drawingoffice.resting import rest
>>> steps = Steps.of(("map", (("b", "c"),)), ("map", (("a", "b"),)))
>>> resting = rest(steps, most=50)
>>> [len(resting), resting("abca")]
[4, 'cccc']
""",
    "gains": """
>>> from drawingoffice.catalogs import Catalog
>>> from drawingoffice.gains import excess
>>> from drawingoffice.lists import Steps
>>> first = Steps.of(("squeeze", "a"))
>>> second = Steps.of(("map", (("a", ""),)))
>>> one = excess(first, second, Catalog({"a": 3}), letters="a", most=50)
>>> two = excess(first, second, Catalog({"a": 3}), letters="ab", most=50)
>>> [one.greatest, one.text, one.loop, two.greatest]
[3, 'a', None, None]
""",
    "changes": """
>>> from drawingoffice.changes import Change
>>> short = ("reach", "p", "frame", (5, ()))
>>> long = ("reach", "p", "frame", (7, ()))
>>> both = Change([short], [long]) + Change([long])
>>> [both.lost, both.gained, both.barred]
[[('reach', 'p', 'frame', (5, ()))], [], [('reach', 'p', 'frame', (7, ()))]]
""",
    "orders": """
>>> from drawingoffice.changes import Change
>>> from drawingoffice.orders import clash, orders_that_go
>>> from drawingoffice.sheets import Sheet
>>> short = ("reach", "p", "frame", (5, ()))
>>> long = ("reach", "p", "frame", (7, ()))
>>> changes = {"fix": Change([short], [long]), "old": Change([long])}
>>> [list(orders_that_go(Sheet([short]), changes, ["old", "fix"])), clash(Sheet([short]), changes, ["old", "fix"])]
[[['fix', 'old']], ('alone', 'old', ('reach', 'p', 'frame', (7, ())))]
""",
    "answers": """
>>> from drawingoffice.answers import judge
>>> from drawingoffice.binders import Binder
>>> from drawingoffice.changes import Change
>>> from drawingoffice.sheets import Sheet
>>> short = ("reach", "p", "frame", (5, ()))
>>> long = ("reach", "p", "frame", (7, ()))
>>> changes = {"fix": Change([short], [long]), "old": Change([long])}
>>> binder = Binder({"main": Sheet([short])}, changes, [("goes", ("main", "+fix"))])
>>> [judge(binder, ("goes", ("main", "+fix", "+old"))), judge(binder, ("goes", ("main", "+old")))]
['open', 'never']
""",
    "parting": """
>>> from drawingoffice.parting import parting
>>> from drawingoffice.rules import Rules
>>> once = Rules(["release"], [[1], [1]], [(1, "release")])
>>> every = Rules([], [[]], [])
>>> [once <= every, parting(every, once), parting(once, every)]
[True, ['release', 'release'], None]
""",
    "clearing": """
>>> from drawingoffice.binders import Binder
>>> from drawingoffice.catalogs import Catalog
>>> from drawingoffice.changes import Change
>>> from drawingoffice.clearing import refusal, verdict
>>> from drawingoffice.lists import Steps
>>> from drawingoffice.offices import Office
>>> from drawingoffice.programs import Program
>>> from drawingoffice.routes import Route
>>> from drawingoffice.rules import Rules
>>> from drawingoffice.sheets import Sheet
>>> from drawingoffice.stocks import Stock
>>> room = ("room", "p", "frame", "aa", (0, ()))
>>> changes = {"cut": Change([("reach", "p", "frame", (5, ()))], [("reach", "p", "frame", (3, ()))])}
>>> binder = Binder({"main": Sheet([room, ("reach", "p", "frame", (5, ()))])}, changes, [("goes", ("main", "+cut"))])
>>> release = ("do", "release", ("stop",))
>>> program = Program([("main", (), release), ("late", (), ("do", "+cut", release))])
>>> stock = Stock(Catalog({"a": 2}), Steps([]))
>>> office = Office(route=Route([("part", "p")]), stock=stock, binder=binder, rules=Rules([], [[]], []), program=program)
>>> told = refusal(office, "late", "main")
>>> [verdict(office, "main", "main"), verdict(office, "late", "main"), told.run, told.kind]
['cleared', 'doomed', ('main', '+cut'), 'limit']
""",
}


class Examples(unittest.TestCase):
    def test_examples(self):
        for name, text in EXAMPLES.items():
            test = doctest.DocTestParser().get_doctest(text, {}, name, None, 0)
            said = []
            result = doctest.DocTestRunner(verbose=False).run(test, out=said.append)
            self.assertEqual((result.failed, result.attempted > 0), (0, True), "".join(said))


if __name__ == "__main__":
    unittest.main()
