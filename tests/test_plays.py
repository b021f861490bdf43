"""Points 17 and 18: whole games, broken rules and rows of moves."""

import unittest
from itertools import product

from drawingoffice.cards import Card
from drawingoffice.errors import BadTold, CardUnsure, StateLost, StateSaved, WrongCount
from drawingoffice.players import Breaker, Setter, winner
from drawingoffice.plays import broken, follow, move_rows, plays
from small_cards import card_from, holds_at_end, raised, small_cards, values_of


def sample():
    """A card in which p must be at least m and q at least p + 1, or p + 4 after option 1."""
    card = Card()
    m = card.measure("m", low=0, high=3)
    card.part("p")
    card.turn("t", options=2)
    card.part("q")
    card.rule("p", "frame", least=m)
    card.rule("q", "p", least=1)
    card.rule("q", "p", least=4, when=[("t", 1)])
    return card


class Follow(unittest.TestCase):
    def test_a_setter(self):
        setter = Setter(sample())
        self.assertEqual(follow(setter, [2, 0]), [2, 2, 0, 3])
        self.assertEqual(follow(setter, (3, 1)), [3, 3, 1, 7])

    def test_a_breaker(self):
        card = sample()
        card.rule("frame", "q", least=-6)
        breaker = winner(card)
        self.assertIsInstance(breaker, Breaker)
        self.assertEqual(follow(breaker, [3, 4]), [3, 3, 1, 4])

    def test_moves_stay_and_the_list_is_new(self):
        setter, moves = Setter(sample()), [2, 0]
        follow(setter, moves).clear()
        self.assertEqual(moves, [2, 0])
        self.assertEqual(follow(setter, moves), [2, 2, 0, 3])

    def test_without_steps(self):
        self.assertEqual(follow(Setter(Card()), []), [])
        self.assertEqual(follow(Breaker(Card()), []), [])

    def test_wrong_count(self):
        for moves in [[], [9], [0, 0, 0]]:
            self.assertEqual(raised(follow, Setter(sample()), moves), (WrongCount, {"due": 2}))
        self.assertEqual(raised(follow, Breaker(sample()), [0]), (WrongCount, {"due": 2}))
        self.assertEqual(raised(follow, Setter(Card()), [1]), (WrongCount, {"due": 0}))

    def test_the_first_error_of_the_game(self):
        self.assertEqual(raised(follow, Setter(sample()), [4, 2]), (BadTold, {"at": 0}))
        self.assertEqual(raised(follow, Setter(sample()), [3, 2]), (BadTold, {"at": 2}))
        self.assertEqual(raised(follow, Setter(sample()), [3, -1]), (BadTold, {"at": 2}))
        self.assertEqual(raised(follow, Breaker(sample()), [0, 0]), (StateSaved, {"at": 0}))
        lost = sample()
        lost.rule("frame", "p", least=-2)
        self.assertEqual(raised(follow, Setter(lost), [3, 2]), (StateLost, {"at": 1}))
        self.assertEqual(follow(Setter(lost), [2, 1]), [2, 2, 1, 6])
        self.assertEqual(raised(follow, Setter(lost), [2, 2]), (BadTold, {"at": 2}))

    def test_winners_win(self):
        for card in small_cards():
            player = winner(card)
            if isinstance(player, Setter):
                for row in move_rows(card):
                    self.assertTrue(holds_at_end(card, follow(player, row)))
            else:
                parts = [step for step in card.steps if step[0] == "part"]
                for moves in product((-3, 0, 2), repeat=len(parts)):
                    self.assertFalse(holds_at_end(card, follow(player, list(moves))))


class Broken(unittest.TestCase):
    def test_indexes(self):
        card = sample()
        self.assertEqual(broken(card, [2, 2, 0, 3]), [])
        self.assertEqual(broken(card, [2, 1, 1, 3]), [0, 2])
        self.assertEqual(broken(card, [2, 1, 0, 3]), [0])
        self.assertEqual(broken(card, (3, 0, 1, 0)), [0, 1, 2])
        self.assertEqual(broken(Card(), []), [])

    def test_both_pairs_of_a_rule_must_fit(self):
        card = card_from([("turn", "t", 2), ("turn", "u", 2), ("part", "p"),
                          ("rule", "p", "frame", 1, [("u", 1), ("t", 1)])])
        self.assertEqual([broken(card, [t, u, 0]) for t, u in product((0, 1), (0, 1))], [[], [], [], [0]])

    def test_errors_in_order(self):
        self.assertEqual(raised(broken, sample(), [9, 9, 9]), (WrongCount, {"due": 4}))
        self.assertEqual(raised(broken, sample(), [0, 0, 0, 0, 0]), (WrongCount, {"due": 4}))
        self.assertEqual(raised(broken, sample(), [4, 0, 9, 0]), (BadTold, {"at": 0}))
        self.assertEqual(raised(broken, sample(), [0, 99, 2, 0]), (BadTold, {"at": 2}))

    def test_the_values_stay(self):
        values = [2, 1, 1, 3]
        broken(sample(), values).append(7)
        self.assertEqual(values, [2, 1, 1, 3])


class Rows(unittest.TestCase):
    def test_rows_ascend(self):
        card = card_from([("measure", "m", -1, 1), ("part", "p"), ("turn", "t", 3), ("measure", "n", 5, 5)])
        self.assertEqual(list(move_rows(card)), [[m, t, 5] for m in (-1, 0, 1) for t in (0, 1, 2)])

    def test_no_moves(self):
        self.assertEqual(list(move_rows(Card())), [[]])
        self.assertEqual(list(move_rows(card_from([("part", "p")]))), [[]])

    def test_all_rows_of_small_cards(self):
        for card in small_cards()[::7]:
            values = [values_of(step) for step in card.steps if step[0] != "part"]
            self.assertEqual(list(move_rows(card)), [list(row) for row in product(*values)])

    def test_each_row_is_new(self):
        card = card_from([("turn", "t", 2), ("turn", "u", 2)])
        found = []
        for row in move_rows(card):
            found.append(list(row))
            row.clear()
        self.assertEqual(found, [[0, 0], [0, 1], [1, 0], [1, 1]])

    def test_rows_are_made_one_at_a_time(self):
        card = Card()
        for name in "abcdef":
            card.measure(name, low=0, high=10 ** 59)
        rows = move_rows(card)
        self.assertEqual([next(rows), next(rows)], [[0] * 6, [0] * 5 + [1]])


class Plays(unittest.TestCase):
    def test_plays_of_a_sure_card(self):
        card = sample()
        self.assertEqual(list(plays(card)), [follow(Setter(card), row) for row in move_rows(card)])
        self.assertEqual(next(plays(card)), [0, 0, 0, 1])
        self.assertEqual(list(plays(Card())), [[]])

    def test_an_unsure_card_fails_at_the_first_item(self):
        card = sample()
        card.rule("frame", "q", least=-6)
        asked = plays(card)
        self.assertEqual(raised(next, asked), (CardUnsure, {}))

    def test_plays_are_made_one_at_a_time(self):
        card = card_from([("measure", name, 0, 10 ** 59) for name in "abcdef"])
        self.assertEqual(next(plays(card)), [0] * 6)


if __name__ == "__main__":
    unittest.main()
