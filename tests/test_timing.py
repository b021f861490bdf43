"""Points 23 and 24: measures and turns that come at another time."""

import unittest

from drawingoffice.cards import Card
from drawingoffice.errors import BadOption, BadPosition, UnknownName
from drawingoffice.players import sure
from drawingoffice.timing import latest, moved, put_off, taken
from small_cards import card_from, raised, random_card, saved, small_cards


def sample():
    card = Card()
    m = card.measure("m", low=0, high=2)
    card.part("p")
    card.rule("p", "frame", least=m)
    card.turn("t", options=2)
    card.part("q")
    card.rule("q", "p", least=1, when=[("t", 1)])
    card.turn("u", options=3)
    card.rule("frame", "q", least=m - 9, when=[("t", 0), ("u", 2)])
    card.rule("frame", "q", least=-8, when=[("u", 1)])
    return card


class Moved(unittest.TestCase):
    def test_acts(self):
        card = sample()
        rules = [("rule",) + rule for rule in card.rules]
        for name, to, order in [("m", 0, "mptqu"), ("m", 2, "ptmqu"), ("m", 4, "ptqum"), ("u", 0, "umptq"),
                                ("t", 1, "mtpqu"), ("t", 2, "mptqu"), ("t", 3, "mpqtu")]:
            acts = moved(card, name, to=to).acts
            self.assertEqual("".join(act[1] for act in acts[:5]), order)
            self.assertEqual(acts[:5], [step for letter in order for step in card.steps if step[1] == letter])
            self.assertEqual(acts[5:], rules)

    def test_errors_in_order(self):
        card = sample()
        for name in ["p", "x", "", "frame", "No name"]:
            self.assertEqual(raised(moved, card, name, to=99), (UnknownName, {"name": name}))
            self.assertEqual(raised(latest, card, name), (UnknownName, {"name": name}))
        for to in (-1, 5, 99):
            self.assertEqual(raised(moved, card, "m", to=to), (BadPosition, {"to": to}))

    def test_the_card_stays_and_the_new_one_can_be_changed(self):
        card = sample()
        acts = card.acts
        later = moved(card, "m", to=3)
        later.rule("p", "q", least=later.form("m"))
        later.part("r")
        self.assertEqual(card.acts, acts)

    def test_latest(self):
        card = Card()
        m = card.measure("m", low=0, high=2)
        card.part("p")
        card.part("q")
        card.rule("q", "p", least=m)
        card.rule("p", "q", least=m * -1)
        self.assertEqual(latest(card, "m"), 1)
        card.rule("p", "frame", least=m)
        card.rule("frame", "p", least=-2)
        self.assertEqual(latest(card, "m"), 1)
        card.rule("frame", "p", least=m * -1)
        self.assertEqual(latest(card, "m"), 0)
        card.rule("frame", "p", least=m * -1 + 1)
        self.assertIsNone(latest(card, "m"))

    def test_latest_of_a_card_that_is_not_sure(self):
        card = card_from([("part", "p"), ("turn", "t", 2), ("rule", "p", "frame", 1, [("t", 0)]),
                          ("rule", "frame", "p", 0, [("t", 1)])])
        self.assertFalse(sure(card))
        self.assertEqual(latest(card, "t"), 0)

    def test_latest_held_against_sure(self):
        found = set()
        for card in small_cards() + [random_card(seed, "mmtpp", rules=7) for seed in range(40)]:
            for step in card.steps:
                if step[0] != "part":
                    places = [to for to in range(len(card.steps)) if sure(moved(card, step[1], to=to))]
                    self.assertEqual(latest(card, step[1]), max(places, default=None))
                    found.add((len(card.steps), max(places, default=None)))
        self.assertGreater(len(found), 6)

    def test_moved_cards_held_against_the_play(self):
        for card in small_cards()[2::11]:
            for step in card.steps:
                if step[0] != "part":
                    for to in range(len(card.steps)):
                        later = moved(card, step[1], to=to)
                        self.assertIs(sure(later), saved(later, []))


class TakenAndPutOff(unittest.TestCase):
    def test_taken(self):
        card = sample()
        m = card.form("m")
        self.assertEqual(taken(card, "t", option=0).acts, [
            ("measure", "m", 0, 2), ("part", "p"), ("rule", "p", "frame", m, ()), ("part", "q"), ("turn", "u", 3),
            ("rule", "frame", "q", m - 9, (("u", 2),)), ("rule", "frame", "q", m * 0 - 8, (("u", 1),))])
        self.assertEqual(taken(card, "t", option=1).acts, [
            ("measure", "m", 0, 2), ("part", "p"), ("rule", "p", "frame", m, ()), ("part", "q"),
            ("rule", "q", "p", m * 0 + 1, ()), ("turn", "u", 3), ("rule", "frame", "q", m * 0 - 8, (("u", 1),))])
        self.assertEqual(len(taken(card, "u", option=0).rules), 2)

    def test_put_off(self):
        card = sample()
        m = card.form("m")
        self.assertEqual(put_off(card, "t").acts, [
            ("measure", "m", 0, 2), ("part", "p"), ("rule", "p", "frame", m, ()), ("part", "q"),
            ("rule", "q", "p", m * 0 + 1, ()), ("turn", "u", 3), ("rule", "frame", "q", m - 9, (("u", 2),)),
            ("rule", "frame", "q", m * 0 - 8, (("u", 1),))])

    def test_errors_in_order(self):
        card = sample()
        for name in ["m", "p", "x", "", "frame"]:
            self.assertEqual(raised(taken, card, name, option=9), (UnknownName, {"name": name}))
            self.assertEqual(raised(put_off, card, name), (UnknownName, {"name": name}))
        for option in (-1, 2):
            self.assertEqual(raised(taken, card, "t", option=option), (BadOption, {"name": "t", "option": option}))

    def test_a_turn_of_one_option(self):
        card = card_from([("turn", "t", 1), ("part", "p"), ("rule", "p", "frame", 1, [("t", 0)])])
        self.assertEqual(taken(card, "t", option=0).acts, put_off(card, "t").acts)

    def test_the_card_stays_and_the_new_one_can_be_changed(self):
        card = sample()
        acts = card.acts
        for other in [taken(card, "t", option=1), put_off(card, "t")]:
            other.turn("t", options=4)
            other.rule("p", "q", least=0, when=[("t", 3)])
        self.assertEqual(card.acts, acts)

    def test_a_first_turn_and_a_last_turn(self):
        found = {"first": set(), "last": set()}
        cards = small_cards() + [random_card(seed, "mttpp", rules=7, slack=2) for seed in range(60)]
        for card in cards:
            for step in card.steps:
                if step[0] == "turn":
                    first = moved(card, step[1], to=0)
                    each = [sure(taken(first, step[1], option=option)) for option in range(step[2])]
                    self.assertIs(sure(first), all(each))
                    found["first"].add(tuple(each))
                    last = moved(card, step[1], to=len(card.steps) - 1)
                    self.assertIs(sure(last), sure(put_off(last, step[1])))
                    found["last"].add(sure(last))
        self.assertEqual((len(found["first"]), len(found["last"])), (4, 2))


if __name__ == "__main__":
    unittest.main()
