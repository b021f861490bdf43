"""Points 13 to 16: states, sure cards and players, held against point 14 played out directly."""

import unittest

from drawingoffice.cards import Card
from drawingoffice.errors import BadTold, NotItsTurn, StateLost, StateSaved
from drawingoffice.players import Breaker, Setter, sure, winner
from small_cards import card_from, raised, random_card, saved, saving_directly, small_cards, states, values_of

GREAT = 10 ** 60 - 1


def example():
    return card_from([
        ("part", "p"), ("turn", "late", 2), ("part", "q"), ("rule", "q", "p", 1, ()),
        ("rule", "frame", "q", -9, [("late", 0)]), ("rule", "frame", "q", -4, [("late", 1)]),
    ])


class Told(unittest.TestCase):
    def setUp(self):
        self.card = card_from([("measure", "m", -1, 2), ("turn", "t", 3), ("part", "p")])

    def test_states(self):
        for told in [[], (), [-1], [2], [0, 0], (0, 2), [0, 1, GREAT], [0, 1, -GREAT]]:
            self.assertIs(sure(self.card, told=told), True)

    def test_not_a_state(self):
        cases = [([3], 0), ([-2], 0), ([0, 3], 1), ([0, -1], 1), ([5, 9], 0), ([0, 0, 0, 0], 3), ([0, 3, 0, 0], 1),
                 ([0, 0, 7, 0, 0], 3), ((0, 3), 1)]
        for told, at in cases:
            self.assertEqual(raised(sure, self.card, told=told), (BadTold, {"at": at}))
            self.assertEqual(raised(winner, self.card, told=told), (BadTold, {"at": at}))
            self.assertEqual(raised(Setter(self.card), told), (BadTold, {"at": at}))
            self.assertEqual(raised(Breaker(self.card), told), (BadTold, {"at": at}))

    def test_a_card_without_steps(self):
        self.assertIs(sure(Card()), True)
        self.assertEqual(raised(sure, Card(), told=[0]), (BadTold, {"at": 0}))
        self.assertEqual(raised(Setter(Card()), []), (NotItsTurn, {"at": 0}))


class Sure(unittest.TestCase):
    def test_the_printed_example(self):
        card = example()
        self.assertEqual([sure(card), sure(card, told=[4]), Setter(card)([2, 1])], [True, False, 3])

    def test_edges(self):
        self.assertTrue(sure(card_from([("part", "p")])))
        self.assertTrue(sure(card_from([("turn", "t", 1), ("measure", "m", 3, 3)])))
        tight = [("part", "p"), ("rule", "p", "frame", 5, ())]
        self.assertTrue(sure(card_from(tight + [("rule", "frame", "p", -5, ())])))
        self.assertFalse(sure(card_from(tight + [("rule", "frame", "p", -4, ())])))
        pairs = [("turn", "t", 2), ("part", "p"), ("rule", "p", "frame", 1, [("t", 0)])]
        self.assertTrue(sure(card_from(pairs + [("rule", "frame", "p", 0, [("t", 1)])])))
        self.assertFalse(sure(card_from(pairs + [("rule", "frame", "p", 0, ())])))

    def test_a_part_knows_earlier_steps_only(self):
        for first, second, expected in [("measure", "part", True), ("part", "measure", False)]:
            card = Card()
            for kind in (first, second):
                if kind == "part":
                    card.part("p")
                else:
                    card.measure("m", low=0, high=4)
            card.rule("p", "frame", least=card.form("m"))
            card.rule("frame", "p", least=card.form("m") * -1)
            self.assertIs(sure(card), expected)

    def test_great_numbers(self):
        card = Card()
        m = card.measure("m", low=-GREAT, high=GREAT)
        card.part("p")
        card.rule("p", "frame", least=m * GREAT)
        card.rule("frame", "p", least=m * -GREAT)
        self.assertTrue(sure(card))
        self.assertEqual(Setter(card)([GREAT]), GREAT * GREAT)
        self.assertTrue(sure(card, told=[GREAT, GREAT * GREAT]))
        self.assertFalse(sure(card, told=[GREAT, GREAT * GREAT - 1]))
        card.rule("frame", "p", least=m * -GREAT + 1)
        self.assertFalse(sure(card))

    def test_held_against_the_play(self):
        found = {True: 0, False: 0}
        for card in small_cards():
            expected = saved(card, [])
            self.assertIs(sure(card), expected)
            found[expected] += 1
        self.assertGreater(min(found.values()), 50)

    def test_states_held_against_the_play(self):
        for card in small_cards()[::3]:
            for count in range(len(card.steps) + 1):
                for told in states(card, count):
                    self.assertIs(sure(card, told=told), saved(card, told))

    def test_a_part_that_is_bound_to_a_later_measure_by_a_later_part(self):
        # The rules say that q is -5 - m and p is q + 5: right for each value of m, but p is set before m is known.
        for steps, expected in [("pmq", False), ("mpq", True), ("pmrq", False), ("mrpq", True), ("prmq", False)]:
            card = Card()
            for name in steps:
                if name == "m":
                    card.measure("m", low=0, high=1)
                else:
                    card.part(name)
            m = card.form("m")
            card.rule("frame", "q", least=m + 5)
            card.rule("q", "frame", least=m * -1 - 5)
            card.rule("q", "p", least=-5)
            card.rule("p", "q", least=5)
            self.assertIs(sure(card), expected)

    def test_the_order_of_the_steps_matters_to_rounds_of_parts(self):
        # A measure between two parts: lines that come twice by a part must not be dropped there.
        for seed in range(150):
            card = random_card(seed, "pmpt", rules=6, slack=2, spread=1)
            self.assertIs(sure(card), saved(card, []))
        for seed in range(25):
            card = random_card(seed, "ppmp", rules=7, slack=1, spread=1)
            self.assertIs(sure(card), saved(card, []))

    def test_many_rules(self):
        for seed in range(8):
            card = random_card(seed, "mmmmmmtttpppppp", rules=80, slack=9, times=2)
            self.assertIs(sure(card), isinstance(winner(card), Setter))


class Players(unittest.TestCase):
    def test_winner(self):
        card = example()
        self.assertIsInstance(winner(card), Setter)
        self.assertNotIsInstance(winner(card), Breaker)
        self.assertIsInstance(winner(card, told=[4]), Breaker)
        self.assertNotIsInstance(winner(card, told=[4]), Setter)
        self.assertIsInstance(winner(card, told=[3]), Setter)

    def test_steps(self):
        card = example()
        for player in [Setter(card), Breaker(card), winner(card)]:
            self.assertEqual(player.steps, card.steps)
            player.steps.clear()
            self.assertEqual(player.steps, card.steps)

    def test_a_player_keeps_its_card(self):
        card = example()
        setter, breaker = Setter(card), Breaker(card)
        card.rule("p", "frame", least=100)
        card.part("r")
        self.assertEqual(setter([2, 1]), 3)
        self.assertEqual(breaker([4]), 1)
        self.assertEqual(len(setter.steps), 3)

    def test_players_of_lost_and_saved_cards_can_be_made(self):
        card = example()
        card.rule("p", "frame", least=100)
        self.assertEqual(raised(Setter(card), []), (StateLost, {"at": 0}))
        self.assertEqual(Breaker(card)([0]), 0)
        self.assertEqual(raised(Breaker(example()), [3]), (StateSaved, {"at": 1}))

    def test_errors_in_order(self):
        setter, breaker = Setter(example()), Breaker(example())
        self.assertEqual(raised(setter, [0, 2]), (BadTold, {"at": 1}))
        self.assertEqual(raised(setter, [0]), (NotItsTurn, {"at": 1}))
        self.assertEqual(raised(setter, [9]), (NotItsTurn, {"at": 1}))
        self.assertEqual(raised(setter, [0, 0, 0]), (NotItsTurn, {"at": 3}))
        self.assertEqual(raised(setter, [9, 1]), (StateLost, {"at": 2}))
        self.assertEqual(raised(breaker, [0, 0, 0, 0]), (BadTold, {"at": 3}))
        self.assertEqual(raised(breaker, []), (NotItsTurn, {"at": 0}))
        self.assertEqual(raised(breaker, [9, 0]), (NotItsTurn, {"at": 2}))
        self.assertEqual(raised(breaker, [9, 0, 0]), (NotItsTurn, {"at": 3}))
        self.assertEqual(raised(breaker, [0]), (StateSaved, {"at": 1}))

    def test_the_setter_takes_the_least_place_or_the_greatest_or_zero(self):
        steps = [("part", "p")]
        low, high = ("rule", "p", "frame", -7, ()), ("rule", "frame", "p", 3, ())
        self.assertEqual(Setter(card_from(steps + [low, high]))([]), -7)
        self.assertEqual(Setter(card_from(steps + [low]))([]), -7)
        self.assertEqual(Setter(card_from(steps + [high]))([]), -3)
        self.assertEqual(Setter(card_from(steps))([]), 0)

    def test_the_breaker_takes_the_low_end_first(self):
        card = Card()
        m = card.measure("m", low=-2, high=2)
        card.part("p")
        card.rule("p", "frame", least=m * m.most)
        self.assertEqual(raised(Breaker(card), []), (StateSaved, {"at": 0}))
        card.rule("frame", "p", least=m + -1)
        self.assertEqual(Breaker(card)([]), 2)
        card.rule("frame", "p", least=m * -9)
        self.assertEqual(Breaker(card)([]), -2)

    def test_the_breaker_takes_the_least_option(self):
        card = card_from([("turn", "t", 4), ("part", "p"), ("rule", "p", "frame", 1, ()),
                          ("rule", "frame", "p", 0, [("t", 3)]), ("rule", "frame", "p", 0, [("t", 1)])])
        self.assertEqual(Breaker(card)([]), 1)

    def test_told_stays(self):
        told = [2, 1]
        Setter(example())(told)
        self.assertEqual(told, [2, 1])

    def test_held_against_the_play(self):
        for card in small_cards()[::2]:
            setter, breaker = Setter(card), Breaker(card)
            for count, step in enumerate(card.steps):
                for told in states(card, count):
                    if step[0] == "part":
                        self.check_setter(card, setter, told)
                    else:
                        self.check_breaker(card, breaker, step, told)

    def check_setter(self, card, setter, told):
        ends = saving_directly(card, told)
        if ends is None:
            self.assertEqual(raised(setter, told), (StateLost, {"at": len(told)}))
        else:
            known = [end for end in ends if end is not None]
            self.assertEqual(setter(told), known[0] if known else 0)

    def check_breaker(self, card, breaker, step, told):
        losing = [value for value in values_of(step) if not saved(card, told + [value])]
        if not losing:
            self.assertEqual(raised(breaker, told), (StateSaved, {"at": len(told)}))
        elif step[0] == "turn":
            self.assertEqual(breaker(told), losing[0])
        else:
            self.assertEqual(breaker(told), step[2] if step[2] in losing else step[3])
            self.assertIn(breaker(told), losing)


if __name__ == "__main__":
    unittest.main()
