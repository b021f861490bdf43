"""Points 3 and 10 to 12: cards, and what stays when lists are changed."""

import unittest

from drawingoffice.cards import Card
from drawingoffice.errors import BadCount, BadEnds, BadName, BadOption, CardEmpty, CardFull, NameTaken, SamePart
from drawingoffice.errors import TurnTwice, UnknownName, UnlikeEnds
from drawingoffice.forms import Form, measured
from small_cards import raised

GREAT = 10 ** 60 - 1


def sample():
    card = Card()
    card.measure("m", low=-1, high=2)
    card.part("p")
    card.turn("t", options=3)
    card.turn("u", options=1)
    card.part("q")
    return card


class Acts(unittest.TestCase):
    def test_a_new_card_is_empty(self):
        card = Card()
        self.assertEqual((card.acts, card.steps, card.rules), ([], [], []))

    def test_what_the_methods_return(self):
        card = Card()
        self.assertEqual(card.measure("m", low=0, high=3), measured("m", low=0, high=3))
        self.assertIsNone(card.turn("t", options=2))
        self.assertIsNone(card.part("p"))
        self.assertIsNone(card.rule("p", "frame", least=1))

    def test_acts_steps_and_rules_in_order(self):
        card = Card()
        m = card.measure("m", low=0, high=3)
        card.part("p")
        card.rule("p", "frame", least=m * 2 + 1)
        card.turn("t", options=2)
        card.rule("frame", "p", least=-9, when=[("t", 1)])
        steps = [("measure", "m", 0, 3), ("part", "p"), ("turn", "t", 2)]
        rules = [("p", "frame", m * 2 + 1, ()), ("frame", "p", Form(-9), (("t", 1),))]
        self.assertEqual(card.steps, steps)
        self.assertEqual(card.rules, rules)
        self.assertEqual(card.acts, steps[:2] + [("rule",) + rules[0], steps[2], ("rule",) + rules[1]])

    def test_a_number_counts_as_a_form(self):
        card = sample()
        card.rule("p", "q", least=GREAT)
        self.assertIsInstance(card.rules[0][2], Form)
        self.assertEqual((card.rules[0][2].constant, card.rules[0][2].terms), (GREAT, ()))

    def test_when_is_put_in_ascending_order(self):
        card = sample()
        pairs = [("u", 0), ("t", 2)]
        card.rule("p", "q", least=0, when=pairs)
        card.rule("p", "q", least=0, when=(("t", 0), ("u", 0)))
        self.assertEqual([rule[3] for rule in card.rules], [(("t", 2), ("u", 0)), (("t", 0), ("u", 0))])
        self.assertEqual(pairs, [("u", 0), ("t", 2)])

    def test_form_and_in(self):
        card = sample()
        self.assertEqual(card.form("m"), measured("m", low=-1, high=2))
        for name in ["p", "t", "n", "frame", "", "No Name"]:
            self.assertEqual(raised(card.form, name), (UnknownName, {"name": name}))
        for name in ["m", "p", "t", "u", "q"]:
            self.assertIs(name in card, True)
        for name in ["n", "frame", "", "M"]:
            self.assertIs(name in card, False)

    def test_back(self):
        card = sample()
        card.rule("p", "q", least=2)
        self.assertEqual(card.back(), ("rule", "p", "q", Form(2), ()))
        self.assertEqual(card.back(), ("part", "q"))
        self.assertIs("q" in card, False)
        self.assertEqual([card.back()[0] for _ in range(4)], ["turn", "turn", "part", "measure"])
        self.assertEqual(raised(card.back), (CardEmpty, {}))
        self.assertEqual(card.acts, [])
        card.part("q")
        self.assertEqual(card.steps, [("part", "q")])


class StepErrors(unittest.TestCase):
    def test_measure_errors_in_order(self):
        card = sample()
        self.assertEqual(raised(card.measure, "M", low=1, high=0), (BadName, {"name": "M"}))
        self.assertEqual(raised(card.measure, "frame", low=1, high=0), (BadName, {"name": "frame"}))
        self.assertEqual(raised(card.measure, "p", low=1, high=0), (NameTaken, {"name": "p"}))
        self.assertEqual(raised(card.measure, "n", low=1, high=0), (BadEnds, {"low": 1, "high": 0}))
        for at in range(5):
            card.measure("n" + str(at), low=0, high=0)
        self.assertEqual(raised(card.measure, "n", low=1, high=0), (BadEnds, {"low": 1, "high": 0}))
        self.assertEqual(raised(card.measure, "n", low=0, high=0), (CardFull, {"kind": "measure"}))
        self.assertEqual(raised(card.measure, "n0", low=0, high=0), (NameTaken, {"name": "n0"}))
        self.assertEqual(len(card.steps), 10)
        self.assertIs("n" in card, False)

    def test_turn_errors_in_order(self):
        card = sample()
        self.assertEqual(raised(card.turn, "", options=0), (BadName, {"name": ""}))
        self.assertEqual(raised(card.turn, "m", options=0), (NameTaken, {"name": "m"}))
        self.assertEqual(raised(card.turn, "v", options=0), (BadCount, {"options": 0}))
        self.assertEqual(raised(card.turn, "v", options=-3), (BadCount, {"options": -3}))
        card.turn("v", options=9)
        self.assertEqual(raised(card.turn, "w", options=0), (BadCount, {"options": 0}))
        self.assertEqual(raised(card.turn, "w", options=1), (CardFull, {"kind": "turn"}))
        self.assertEqual(len(card.steps), 6)

    def test_part_errors_in_order(self):
        card = sample()
        self.assertEqual(raised(card.part, "a-b"), (BadName, {"name": "a-b"}))
        self.assertEqual(raised(card.part, "t"), (NameTaken, {"name": "t"}))
        for at in range(4):
            card.part("r" + str(at))
        self.assertEqual(raised(card.part, "frame"), (BadName, {"name": "frame"}))
        self.assertEqual(raised(card.part, "r0"), (NameTaken, {"name": "r0"}))
        self.assertEqual(raised(card.part, "r"), (CardFull, {"kind": "part"}))
        self.assertEqual(len(card.steps), 9)

    def test_a_full_card_takes_steps_again_after_back(self):
        card = Card()
        for at in range(6):
            card.part("p" + str(at))
        card.back()
        card.part("last")
        self.assertEqual(raised(card.part, "more"), (CardFull, {"kind": "part"}))


class RuleErrors(unittest.TestCase):
    def setUp(self):
        self.card = sample()

    def refused(self, *parts, error, **more):
        before = self.card.acts
        self.assertEqual(raised(self.card.rule, *parts, **more), error)
        self.assertEqual(self.card.acts, before)

    def test_parts(self):
        wrong = measured("x", low=0, high=0)
        self.refused("x", "y", least=wrong, error=(UnknownName, {"name": "x"}))
        self.refused("m", "y", least=wrong, error=(UnknownName, {"name": "m"}))
        self.refused("t", "t", least=wrong, error=(UnknownName, {"name": "t"}))
        self.refused("p", "y", least=wrong, error=(UnknownName, {"name": "y"}))
        self.refused("p", "p", least=wrong, error=(SamePart, {"name": "p"}))
        self.refused("frame", "frame", least=wrong, error=(SamePart, {"name": "frame"}))

    def test_measures(self):
        wider, other = measured("m", low=-1, high=3), measured("n", low=0, high=0)
        when = [("x", 0)]
        self.refused("p", "q", least=wider + other, when=when, error=(UnlikeEnds, {"name": "m"}))
        self.refused("p", "q", least=measured("a", low=0, high=0) + wider, when=when,
                     error=(UnknownName, {"name": "a"}))
        self.refused("p", "q", least=other, when=when, error=(UnknownName, {"name": "n"}))
        self.refused("p", "q", least=measured("t", low=0, high=0), error=(UnknownName, {"name": "t"}))

    def test_when(self):
        self.refused("p", "q", least=0, when=[("x", 0), ("t", 9)], error=(UnknownName, {"name": "x"}))
        self.refused("p", "q", least=0, when=[("p", 0)], error=(UnknownName, {"name": "p"}))
        self.refused("p", "q", least=0, when=[("t", 0), ("t", 9), ("x", 0)], error=(TurnTwice, {"name": "t"}))
        self.refused("p", "q", least=0, when=[("t", 3), ("t", 0)], error=(BadOption, {"name": "t", "option": 3}))
        self.refused("p", "q", least=0, when=[("t", -1)], error=(BadOption, {"name": "t", "option": -1}))
        self.refused("p", "q", least=0, when=[("u", 1)], error=(BadOption, {"name": "u", "option": 1}))

    def test_the_eightieth_rule_and_one_more(self):
        for at in range(80):
            self.card.rule("p", "q", least=-at)
        self.assertEqual(len(self.card.rules), 80)
        self.refused("p", "q", least=0, when=[("t", 3)], error=(BadOption, {"name": "t", "option": 3}))
        self.refused("p", "q", least=0, error=(CardFull, {"kind": "rule"}))
        self.card.part("r")
        self.card.back()
        self.card.back()
        self.card.rule("p", "q", least=0)
        self.assertEqual(len(self.card.rules), 80)


class Copies(unittest.TestCase):
    def test_lists_that_are_passed_can_be_changed_later(self):
        card = sample()
        when = [("t", 1)]
        card.rule("p", "q", least=0, when=when)
        when.append(("u", 0))
        when[0] = ("t", 2)
        self.assertEqual(card.rules[0][3], (("t", 1),))

    def test_lists_that_are_returned_can_be_changed(self):
        card = sample()
        card.rule("p", "q", least=0)
        for got in [card.acts, card.steps, card.rules]:
            got.clear()
        self.assertEqual((len(card.acts), len(card.steps), len(card.rules)), (6, 5, 1))

    def test_two_cards_have_nothing_in_common(self):
        one, two = Card(), Card()
        one.part("p")
        self.assertEqual(two.acts, [])


if __name__ == "__main__":
    unittest.main()
