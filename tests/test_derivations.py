"""Points 20 and 21: derivations and cores."""

import random
import unittest

from drawingoffice.cards import Card
from drawingoffice.derivations import core, derivation, derivation_holds
from drawingoffice.errors import CardSure
from drawingoffice.players import sure
from small_cards import card_from, raised, random_card, small_cards


def turned():
    """The card of the interface's example."""
    return card_from([("part", "p"), ("turn", "t", 2), ("rule", "p", "frame", 3, [("t", 0)]),
                      ("rule", "frame", "p", -1, [("t", 1)])])


LINES = [("rule", 0), ("free", 0, "t"), ("rule", 1), ("free", 2, "t"), ("join", 1, 3, "p")]


def measured_card():
    """A part between two measures and a turn behind it; the rules ask for m - 1 and for n more than there is."""
    card = Card()
    m = card.measure("m", low=0, high=3)
    card.part("p")
    n = card.measure("n", low=-1, high=2)
    card.turn("t", options=3)
    card.part("q")
    card.rule("q", "p", least=m - n + 2)
    card.rule("p", "q", least=n * 2 - 3, when=[("t", 1)])
    card.rule("frame", "q", least=-4, when=[("t", 2)])
    card.rule("q", "frame", least=m * 2 + n)
    return card


def with_rules(card, indexes):
    """The card with the same steps and only these of its rules."""
    rules = card.rules
    return card_from(card.steps + [("rule",) + rules[index] for index in indexes])


def core_by_sure(card):
    kept = list(range(len(card.rules)))
    for index in reversed(list(kept)):
        others = [other for other in kept if other != index]
        if not sure(with_rules(card, others)):
            kept = others
    return kept


class Holds(unittest.TestCase):
    def holds(self, card, *lines):
        return derivation_holds(card, list(lines))

    def test_the_printed_example(self):
        card = turned()
        self.assertEqual([derivation_holds(card, LINES), derivation_holds(card, LINES[:4])], [True, False])

    def test_the_lines_stay_and_may_be_a_tuple(self):
        lines = list(LINES)
        self.assertIs(derivation_holds(turned(), tuple(lines)), True)
        derivation_holds(turned(), lines)
        self.assertEqual(lines, LINES)

    def test_no_lines(self):
        self.assertIs(self.holds(turned()), False)
        self.assertIs(self.holds(Card()), False)

    def test_indexes_and_line_numbers(self):
        card = turned()
        self.assertIs(self.holds(card, *LINES[:4], ("rule", 1), LINES[4]), True)
        for index in (-1, -2, 2, 10 ** 60):
            self.assertIs(self.holds(card, *LINES[:4], ("rule", index), LINES[4]), False)
        for wrong in [("free", -1, "t"), ("free", 1, "t"), ("free", 2, "t"), ("free", 10 ** 50, "t")]:
            self.assertIs(self.holds(card, LINES[0], wrong, *LINES[2:]), False)
        for wrong in [("join", 1, 4, "p"), ("join", 4, 3, "p"), ("join", -4, 3, "p"), ("join", 1, -2, "p"),
                      ("join", 1, 9, "p")]:
            self.assertIs(self.holds(card, *LINES[:4], wrong), False)
        self.assertIs(self.holds(card, ("worst", 0, "m", 1)), False)

    def test_unused_lines_must_be_right(self):
        card = turned()
        self.assertIs(self.holds(card, LINES[0], LINES[0], ("free", 0, "t"), LINES[2], ("free", 3, "t"),
                                 ("join", 2, 4, "p")), True)
        self.assertIs(self.holds(card, LINES[0], ("free", 0, "u"), ("free", 0, "t"), LINES[2], ("free", 3, "t"),
                                 ("join", 2, 4, "p")), False)

    def test_the_last_line_must_be_absurd(self):
        self.assertIs(self.holds(turned(), *LINES, ("rule", 0)), False)
        card = card_from([("part", "p"), ("rule", "p", "frame", 3, ()), ("rule", "frame", "p", -3, ())])
        lines = [("rule", 0), ("rule", 1), ("join", 0, 1, "p")]
        self.assertIs(derivation_holds(card, lines), False)
        card.rule("frame", "p", least=-2)
        self.assertIs(derivation_holds(card, lines), False)
        self.assertIs(derivation_holds(card, [("rule", 0), ("rule", 2), ("join", 0, 1, "p")]), True)
        self.assertIs(derivation_holds(card, [("rule", 0)]), False)

    def test_the_last_line_has_no_measures_and_no_when(self):
        card = Card()
        m = card.measure("m", low=5, high=6)
        card.turn("t", options=2)
        card.part("p")
        card.rule("p", "frame", least=m, when=[("t", 0)])
        card.rule("frame", "p", least=0)
        lines = [("rule", 0), ("rule", 1), ("join", 0, 1, "p"), ("free", 2, "t"), ("worst", 3, "m", 5)]
        self.assertEqual([derivation_holds(card, lines[:count]) for count in (3, 4, 5)], [False, False, True])
        swapped = lines[:3] + [("worst", 2, "m", 5), ("free", 3, "t")]
        self.assertIs(derivation_holds(card, swapped), False)

    def test_worst_lines(self):
        card = measured_card()
        join = [("rule", 0), ("rule", 1), ("join", 0, 1, "q"), ("free", 2, "t")]
        right = join + [("worst", 3, "n", 2), ("worst", 4, "m", 0)]
        self.assertIs(derivation_holds(card, right), True)
        for value, expected in [(-2, False), (-1, False), (1, False), (3, False)]:
            lines = join + [("worst", 3, "n", value), ("worst", 4, "m", 0)]
            self.assertIs(derivation_holds(card, lines), expected)
        for name in ["o", "p", "t", "q", "frame", "", "No name"]:
            self.assertIs(derivation_holds(card, join + [("worst", 3, name, 0)] + right[5:]), False)

    def test_a_worst_value_need_not_be_an_end(self):
        card = Card()
        m = card.measure("m", low=-5, high=5)
        card.part("p")
        card.rule("p", "frame", least=m)
        card.rule("frame", "p", least=0)
        lines = [("rule", 0), ("rule", 1), ("join", 0, 1, "p")]
        self.assertEqual([derivation_holds(card, lines + [("worst", 2, "m", value)]) for value in (-1, 0, 1, 4, 5, 6)],
                         [False, False, True, True, True, False])

    def test_the_measure_of_a_worst_line_comes_last(self):
        card = measured_card()
        absurd = [("rule", 0), ("rule", 1), ("join", 0, 1, "q"), ("free", 2, "t"), ("worst", 3, "n", 2),
                  ("worst", 4, "m", 0)]
        self.assertIs(derivation_holds(card, absurd), True)

        def ends_well(*lines):
            moved = [tuple(at + len(lines) if k > 0 and isinstance(at, int) and not (line[0] == "worst" and k == 3)
                           and line[0] != "rule" else at for k, at in enumerate(line)) for line in absurd]
            return derivation_holds(card, list(lines) + moved)

        self.assertIs(ends_well(), True)
        self.assertIs(ends_well(("rule", 3)), True)
        self.assertIs(ends_well(("rule", 3), ("worst", 0, "n", 0)), False)
        self.assertIs(ends_well(("rule", 0), ("rule", 1), ("join", 0, 1, "q"), ("worst", 2, "n", 0)), False)
        self.assertIs(ends_well(("rule", 0), ("rule", 1), ("join", 0, 1, "q"), ("free", 2, "t"),
                                ("worst", 3, "m", 0)), False)
        self.assertIs(ends_well(("rule", 0), ("rule", 1), ("join", 0, 1, "q"), ("free", 2, "t"),
                                ("worst", 3, "n", 0)), True)
        self.assertIs(ends_well(("rule", 2), ("free", 0, "t")), False)

    def test_free_lines(self):
        card = turned()
        for turn in ["u", "p", "frame", "", "T"]:
            self.assertIs(self.holds(card, LINES[0], ("free", 0, turn), *LINES[2:]), False)
        self.assertIs(self.holds(card, *LINES[:2], ("free", 1, "t"), LINES[2], ("free", 3, "t"),
                                 ("join", 1, 4, "p")), False)
        early = card_from([("turn", "t", 2), ("part", "p"), ("rule", "p", "frame", 3, [("t", 0)]),
                           ("rule", "frame", "p", -1, [("t", 1)])])
        self.assertIs(derivation_holds(early, LINES), False)
        two = card_from([("part", "p"), ("turn", "t", 2), ("turn", "u", 2),
                         ("rule", "p", "frame", 3, [("t", 0), ("u", 1)]), ("rule", "frame", "p", -1, ())])
        good = [("rule", 0), ("free", 0, "u"), ("free", 1, "t"), ("rule", 1), ("join", 2, 3, "p")]
        bad = [("rule", 0), ("free", 0, "t"), ("free", 1, "u"), ("rule", 1), ("join", 2, 3, "p")]
        self.assertEqual([derivation_holds(two, good), derivation_holds(two, bad)], [True, False])

    def test_join_lines(self):
        card = card_from([("part", "p"), ("part", "q"), ("rule", "q", "p", 3, ()), ("rule", "p", "q", -2, ()),
                          ("rule", "frame", "q", 0, ()), ("rule", "p", "frame", 0, ())])
        rules = [("rule", index) for index in range(4)]
        self.assertIs(self.holds(card, *rules, ("join", 0, 1, "q")), True)
        for wrong in [("join", 1, 0, "q"), ("join", 0, 1, "p"), ("join", 0, 0, "q"), ("join", 0, 3, "q"),
                      ("join", 0, 1, "frame"), ("join", 0, 1, "r"), ("join", 0, 1, "")]:
            self.assertIs(self.holds(card, *rules, ("join", 0, 1, "q"), wrong, ("join", 0, 1, "q")), False)
        # p is not the last name of the lines that are joined at it; at the frame nothing is joined.
        self.assertIs(self.holds(card, *rules, ("join", 1, 0, "p")), False)
        self.assertIs(self.holds(card, *rules, ("join", 2, 3, "frame"), ("join", 0, 1, "q")), False)

    def test_closed_lines_are_not_joined(self):
        card = card_from([("part", "p"), ("part", "q"), ("rule", "q", "p", 3, ()), ("rule", "p", "q", -2, ()),
                          ("rule", "q", "frame", 0, ())])
        lines = [("rule", 0), ("rule", 1), ("rule", 2), ("join", 0, 1, "q")]
        self.assertIs(derivation_holds(card, lines), True)
        for wrong in [("join", 3, 1, "p"), ("join", 0, 3, "p"), ("join", 3, 3, "p")]:
            self.assertIs(derivation_holds(card, lines + [wrong, ("join", 0, 1, "q")]), False)
        self.assertIs(derivation_holds(card, lines + [("join", 2, 1, "q"), ("join", 0, 1, "q")]), True)
        card.rule("frame", "p", least=0)
        card.rule("p", "frame", least=0)
        lines = lines + [("rule", 3), ("rule", 4)]
        self.assertIs(derivation_holds(card, lines + [("join", 5, 4, "p"), lines[3]]), True)
        for wrong in [("join", 3, 4, "p"), ("join", 5, 3, "p"), ("join", 3, 3, "p")]:
            self.assertIs(derivation_holds(card, lines + [wrong, lines[3]]), False)
        back = card_from([("part", "p"), ("part", "q"), ("rule", "frame", "q", 3, ()), ("rule", "q", "frame", -2, ()),
                          ("rule", "frame", "p", 0, ()), ("rule", "p", "frame", 0, ())])
        lines = [("rule", 1), ("rule", 0), ("join", 0, 1, "q")]
        self.assertIs(derivation_holds(back, lines), True)
        self.assertIs(derivation_holds(back, lines + [("rule", 3), ("join", 3, 2, "p"), lines[2]]), False)

    def test_joined_options_must_agree(self):
        for option, expected in [(0, False), (1, True)]:
            card = card_from([("turn", "t", 2), ("turn", "u", 2), ("part", "p"),
                              ("rule", "p", "frame", 3, [("t", 1)]),
                              ("rule", "frame", "p", -1, [("t", option), ("u", 0)])])
            lines = [("rule", 0), ("rule", 1), ("join", 0, 1, "p"), ("free", 2, "u"), ("free", 3, "t")]
            self.assertIs(derivation_holds(card, lines), expected)

    def test_measures_that_cancel_count_as_names(self):
        for late, expected in [(False, True), (True, False)]:
            card = Card()
            card.part("p") if late else card.measure("m", low=0, high=1)
            card.measure("m", low=0, high=1) if late else card.part("p")
            card.rule("p", "frame", least=card.form("m") + 1)
            card.rule("frame", "p", least=card.form("m") * -1)
            lines = [("rule", 0), ("rule", 1), ("join", 0, 1, "p")]
            self.assertIs(derivation_holds(card, lines), expected)

    def test_the_parts_of_a_closed_line_are_not_its_names(self):
        card = Card()
        m = card.measure("m", low=0, high=1)
        card.part("p")
        card.part("q")
        card.rule("q", "p", least=m)
        card.rule("p", "q", least=0)
        self.assertIs(self.holds(card, ("rule", 0), ("rule", 1), ("join", 0, 1, "q"), ("worst", 2, "m", 1)), True)
        self.assertIs(self.holds(card, ("rule", 0), ("worst", 0, "m", 1), ("rule", 1), ("join", 1, 2, "q")), False)

    def test_no_list_holds_for_a_sure_card(self):
        chance = random.Random(7)
        cards = [card for card in small_cards() if card.rules]
        names = ["frame", "m0", "m1", "p0", "p1", "p2", "t0", "t1", "t2"]
        tried = 0
        for card in cards:
            if sure(card):
                for _ in range(20):
                    lines = [("rule", index) for index in range(len(card.rules))]
                    while len(lines) < 14:
                        first, second = chance.randrange(len(lines)), chance.randrange(len(lines))
                        name = chance.choice(names)
                        line = chance.choice([("worst", first, name, chance.randint(-1, 2)), ("free", first, name),
                                              ("join", first, second, name), ("join", first, second, name)])
                        self.assertIs(derivation_holds(card, lines + [line]), False)
                        lines.append(line)
                        tried += 1
        self.assertGreater(tried, 1000)


class Derivation(unittest.TestCase):
    def test_a_sure_card(self):
        self.assertEqual(raised(derivation, Card()), (CardSure, {}))
        self.assertEqual(raised(derivation, card_from([("part", "p")])), (CardSure, {}))

    def test_small_cards(self):
        found = 0
        for card in small_cards():
            if sure(card):
                self.assertEqual(raised(derivation, card), (CardSure, {}))
            else:
                lines = derivation(card)
                self.assertIs(derivation_holds(card, lines), True)
                self.assertTrue(all(isinstance(line, tuple) for line in lines))
                found += 1
        self.assertGreater(found, 50)

    def test_great_cards(self):
        found = 0
        for seed in range(30):
            card = random_card(seed, "mmmmttppppp", rules=25, slack=5)
            if not sure(card):
                self.assertIs(derivation_holds(card, derivation(card)), True)
                found += 1
        self.assertGreater(found, 5)

    def test_the_list_is_new(self):
        card = turned()
        derivation(card).clear()
        self.assertIs(derivation_holds(card, derivation(card)), True)


class Core(unittest.TestCase):
    def test_a_sure_card(self):
        self.assertEqual(raised(core, Card()), (CardSure, {}))

    def test_rules_are_looked_at_from_the_last_one_on(self):
        steps = [("part", "p")]
        low, high = ("rule", "p", "frame", 3, ()), ("rule", "frame", "p", -1, ())
        self.assertEqual(core(card_from(steps + [low, high])), [0, 1])
        self.assertEqual(core(card_from(steps + [low, high, low, high])), [0, 1])
        self.assertEqual(core(card_from(steps + [("rule", "p", "frame", 0, ()), high, low, high])), [1, 2])

    def test_held_against_sure(self):
        cards = small_cards() + [random_card(seed, "mtppp", rules=12, slack=2) for seed in range(30)]
        found = set()
        for card in cards:
            if sure(card):
                self.assertEqual(raised(core, card), (CardSure, {}))
            else:
                kept = core(card)
                self.assertEqual(kept, core_by_sure(card))
                found.add(tuple(kept))
        self.assertGreater(len(found), 20)

    def test_the_card_stays(self):
        card = turned()
        core(card).clear()
        self.assertEqual((core(card), len(card.acts)), ([0, 1], 4))


if __name__ == "__main__":
    unittest.main()
