"""Point 22: widened cards and the widest one."""

import unittest

from drawingoffice.cards import Card
from drawingoffice.errors import BadWidening, CardUnsure
from drawingoffice.forms import measured
from drawingoffice.margins import widened, widest
from drawingoffice.players import sure
from small_cards import card_from, raised, random_card, small_cards


def sample():
    card = Card()
    m = card.measure("m", low=-1, high=2)
    card.part("p")
    card.rule("p", "frame", least=m * 2 + 3)
    card.turn("t", options=2)
    card.measure("n", low=4, high=4)
    card.rule("frame", "p", least=card.form("n") - m - 40, when=[("t", 1)])
    return card


class Widened(unittest.TestCase):
    def test_acts(self):
        m, n = measured("m", low=-4, high=5), measured("n", low=1, high=7)
        self.assertEqual(widened(sample(), by=3).acts, [
            ("measure", "m", -4, 5), ("part", "p"), ("rule", "p", "frame", m * 2 + 3, ()), ("turn", "t", 2),
            ("measure", "n", 1, 7), ("rule", "frame", "p", n - m - 40, (("t", 1),))])

    def test_by_zero(self):
        card = sample()
        wider = widened(card, by=0)
        self.assertEqual(wider.acts, card.acts)
        wider.back()
        self.assertEqual(len(card.acts), 6)

    def test_the_card_stays_and_the_new_one_can_be_changed(self):
        card = sample()
        acts = card.acts
        wider = widened(card, by=2)
        wider.rule("p", "frame", least=wider.form("m"))
        wider.measure("o", low=0, high=1)
        self.assertEqual(card.acts, acts)
        self.assertEqual(wider.form("m"), measured("m", low=-3, high=4))

    def test_bad_widening(self):
        self.assertEqual(raised(widened, sample(), by=-1), (BadWidening, {"by": -1}))

    def test_great_numbers(self):
        great = 10 ** 60 - 1
        self.assertEqual(widened(sample(), by=great).acts[0], ("measure", "m", -1 - great, 2 + great))

    def test_eighty_rules(self):
        card = sample()
        for at in range(78):
            card.rule("p", "frame", least=-at)
        self.assertEqual(len(widened(card, by=1).rules), 80)


class Widest(unittest.TestCase):
    def test_a_tight_card(self):
        card = Card()
        card.part("p")
        m = card.measure("m", low=0, high=1)
        card.rule("p", "frame", least=m)
        card.rule("frame", "p", least=-6)
        self.assertEqual(widest(card), 5)
        card.rule("frame", "p", least=m * 2 - 8)
        self.assertEqual(widest(card), 1)
        card.rule("frame", "p", least=-1)
        self.assertEqual(widest(card), 0)

    def test_a_rule_that_only_asks_for_more_in_a_wider_card(self):
        card = Card()
        m = card.measure("m", low=0, high=3)
        card.part("p")
        card.rule("p", "frame", least=5)
        card.rule("p", "frame", least=m)
        card.rule("frame", "p", least=-6)
        self.assertEqual(widest(card), 3)
        card = Card()
        m = card.measure("m", low=0, high=3)
        card.part("p")
        card.rule("p", "frame", least=m + 10)
        card.rule("p", "frame", least=m * -1)
        card.rule("frame", "p", least=m * -3 - 30)
        self.assertEqual(widest(card), 7)

    def test_no_greatest(self):
        for acts in [[], [("part", "p"), ("rule", "p", "frame", 1, ())], [("measure", "m", 0, 5)]]:
            self.assertIsNone(widest(card_from(acts)))
        card = Card()
        m = card.measure("m", low=0, high=5)
        card.part("p")
        card.rule("p", "frame", least=m)
        card.rule("frame", "p", least=m * -1)
        self.assertIsNone(widest(card))

    def test_an_unsure_card(self):
        card = card_from([("part", "p"), ("rule", "p", "frame", 1, ()), ("rule", "frame", "p", 0, ())])
        self.assertEqual(raised(widest, card), (CardUnsure, {}))

    def test_held_against_sure(self):
        cards = [random_card(seed, "mmpp", rules=5, slack=9) for seed in range(40)]
        cards += [random_card(seed, "mtpmpp", rules=9, slack=12, times=2) for seed in range(60)]
        cards += [random_card(seed, "mmp", rules=8, slack=15, times=3) for seed in range(150)]
        found = set()
        for card in small_cards() + cards:
            if not sure(card):
                self.assertEqual(raised(widest, card), (CardUnsure, {}))
                continue
            by = widest(card)
            found.add(by)
            if by is None:
                self.assertTrue(sure(widened(card, by=10 ** 9)))
            else:
                self.assertTrue(sure(widened(card, by=by)))
                self.assertFalse(sure(widened(card, by=by + 1)))
        self.assertGreater(len(found), 5)


if __name__ == "__main__":
    unittest.main()
