"""Point 19: the places that keep a state saved, and plans."""

import unittest

from drawingoffice.cards import Card
from drawingoffice.errors import BadTold, CardUnsure, NotItsTurn
from drawingoffice.forms import Form
from drawingoffice.plans import plan, saving
from drawingoffice.players import sure
from small_cards import card_from, raised, saved, saving_directly, small_cards, states


class Saving(unittest.TestCase):
    def test_ends(self):
        steps = [("part", "p")]
        low, high = ("rule", "p", "frame", -7, ()), ("rule", "frame", "p", 3, ())
        self.assertEqual(saving(card_from(steps)), (None, None))
        self.assertEqual(saving(card_from(steps + [low])), (-7, None))
        self.assertEqual(saving(card_from(steps + [high])), (None, -3))
        self.assertEqual(saving(card_from(steps + [low, high])), (-7, -3))
        self.assertEqual(saving(card_from(steps + [low, ("rule", "frame", "p", 7, ())])), (-7, -7))
        self.assertIsNone(saving(card_from(steps + [low, ("rule", "frame", "p", 8, ())])))

    def test_errors_in_order(self):
        card = card_from([("turn", "t", 2), ("part", "p"), ("part", "q")])
        self.assertEqual(raised(saving, card), (NotItsTurn, {"at": 0}))
        self.assertEqual(raised(saving, card, told=[2]), (BadTold, {"at": 0}))
        self.assertEqual(raised(saving, card, told=[0, 0, 0]), (NotItsTurn, {"at": 3}))
        self.assertEqual(raised(saving, card, told=(0, 0, 0, 0)), (BadTold, {"at": 3}))
        self.assertEqual(saving(card, told=(1, 5)), (None, None))

    def test_a_lost_state_with_a_next_step_of_another_kind(self):
        card = card_from([("part", "p"), ("turn", "t", 2), ("rule", "p", "frame", 1, ())])
        self.assertEqual(raised(saving, card, told=[0]), (NotItsTurn, {"at": 1}))

    def test_held_against_the_play(self):
        for card in small_cards()[1::2]:
            for count, step in enumerate(card.steps):
                if step[0] == "part":
                    for told in states(card, count):
                        self.assertEqual(saving(card, told=told), saving_directly(card, told))


class Plan(unittest.TestCase):
    def test_one_entry_for_each_part(self):
        card = card_from([("part", "q"), ("turn", "t", 2), ("part", "p"), ("measure", "m", 0, 1)])
        self.assertEqual(plan(card), [("q", [], []), ("p", [], [])])
        self.assertEqual(plan(Card()), [])
        self.assertEqual(plan(card_from([("measure", "m", 0, 1)])), [])

    def test_a_plain_plan(self):
        card = Card()
        m = card.measure("m", low=0, high=3)
        card.turn("t", options=2)
        card.part("p")
        card.part("q")
        card.rule("q", "p", least=m * 2 + 1, when=[("t", 1)])
        card.rule("frame", "q", least=-50)
        entries = plan(card)
        self.assertEqual(entries[1], ("q", [("p", m * 2 + 1, (("t", 1),))], [("frame", Form(50), ())]))
        self.assertEqual(entries[0][:2], ("p", []))
        self.assertIn(("frame", m * -2 + 49, (("t", 1),)), entries[0][2])

    def test_an_unsure_card(self):
        card = card_from([("part", "p"), ("measure", "m", 0, 1), ("rule", "p", "frame", 1, ())])
        card.rule("frame", "p", least=0)
        self.assertEqual(raised(plan, card), (CardUnsure, {}))

    def test_changing_a_plan_has_no_effect(self):
        card = card_from([("part", "p"), ("rule", "p", "frame", 1, ()), ("rule", "frame", "p", -3, ())])
        entries = plan(card)
        entries[0][1].clear()
        entries[0][2].append(7)
        entries.clear()
        self.assertEqual(plan(card), [("p", [("frame", Form(1), ())], [("frame", Form(3), ())])])

    def test_held_against_the_play(self):
        count = 0
        for card in small_cards():
            if sure(card):
                count += 1
                self.check_plan(card, plan(card))
        self.assertGreater(count, 100)

    def check_plan(self, card, entries):
        steps = card.steps
        parts = [at for at, step in enumerate(steps) if step[0] == "part"]
        self.assertEqual([entry[0] for entry in entries], [steps[at][1] for at in parts])
        for at, (name, lows, highs) in zip(parts, entries):
            self.check_names(steps[:at], lows + highs)
            for told in states(card, at, places=(-2, 1)):
                ends = saving_directly(card, told)
                if ends is not None:
                    self.assertEqual(self.kept_ends(steps, told, lows, highs), ends)

    def check_names(self, earlier, entries):
        known = {kind: [step[1] for step in earlier if step[0] == kind] for kind in ("measure", "turn", "part")}
        for other, form, when in entries:
            self.assertIn(other, ["frame"] + known["part"])
            self.assertIsInstance(form, Form)
            self.assertLessEqual({term[0] for term in form.terms}, set(known["measure"]))
            self.assertEqual(list(when), sorted(when))
            self.assertLessEqual({turn for turn, option in when}, set(known["turn"]))

    def kept_ends(self, steps, told, lows, highs):
        found = dict(zip([step[1] for step in steps], told))
        found["frame"] = 0

        def worths(entries):
            return [found[other] + form.value(found) for other, form, when in entries
                    if all(found[turn] == option for turn, option in when)]

        return max(worths(lows), default=None), min(worths(highs), default=None)

    def test_a_place_that_keeps_the_plan_saves_the_state(self):
        card = card_from([("part", "p"), ("measure", "m", 0, 2), ("part", "q"), ("rule", "q", "p", 1, ()),
                          ("rule", "frame", "q", -5, ())])
        card.rule("q", "frame", least=card.form("m"))
        low, high = saving(card)
        self.assertEqual((low, high), (None, 4))
        self.assertEqual([saved(card, [place]) for place in (4, 5)], [True, False])


if __name__ == "__main__":
    unittest.main()
