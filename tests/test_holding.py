"""Points 27 and 28: lists that read a stack bit by bit."""

import random
import unittest

from drawingoffice.holding import advance, finish, start
from drawingoffice.lists import Steps
from stacks import many_lists, texts, word


def pieces(text):
    """Every way to cut the text in pieces."""
    for cuts in range(2 ** max(len(text) - 1, 0)):
        found, piece = [], ""
        for at, char in enumerate(text):
            piece += char
            if cuts >> at & 1:
                found.append(piece)
                piece = ""
        yield found + [piece]


def read_by_the_words(step, held, char):
    """One step reads one character, as point 27 says."""
    if step[0] == "map":
        return "", dict(step[1]).get(char, char)
    if step[0] == "squeeze":
        return (char, "") if char == step[1] else ("", held + char)
    old, seen = step[1], held + char
    if seen == old:
        return "", step[2]
    kept = max([seen[at:] for at in range(len(seen) + 1) if old.startswith(seen[at:]) and seen[at:] != old], key=len)
    return kept, seen[:len(seen) - len(kept)]


class Holding(unittest.TestCase):
    def test_at_first(self):
        self.assertEqual(start(Steps([])), ())
        self.assertEqual(start(Steps([("squeeze", "a"), ("map", ()), ("replace", "ab", "")])), ("", "", ""))

    def test_a_replace(self):
        steps = Steps.of(("replace", "aab", "x"))
        rows = [("", "a", "a", ""), ("a", "a", "aa", ""), ("aa", "a", "aa", "a"), ("aa", "b", "", "x"),
                ("a", "b", "", "ab"), ("aa", "c", "", "aac"), ("", "c", "", "c"), ("aa", "", "aa", "")]
        for held, char, after, emitted in rows:
            self.assertEqual(advance(steps, (held,), char), ((after,), emitted))
        self.assertEqual([finish(steps, (held,)) for held in ("", "a", "aa")], ["", "a", "aa"])

    def test_a_replace_that_overlaps_itself(self):
        steps = Steps.of(("replace", "aba", "c"))
        self.assertEqual(advance(steps, ("",), "abab"), (("",), "cb"))
        self.assertEqual(advance(steps, ("ab",), "b"), (("",), "abb"))
        self.assertEqual(advance(Steps.of(("replace", "abaa", "c")), ("aba",), "b"), (("ab",), "ab"))

    def test_a_replace_of_one_character_holds_nothing(self):
        self.assertEqual(advance(Steps.of(("replace", "a", "bc")), ("",), "aba"), (("",), "bcbbc"))

    def test_a_squeeze(self):
        steps = Steps.of(("squeeze", "a"))
        rows = [("", "a", "a", ""), ("a", "a", "a", ""), ("a", "b", "", "ab"), ("", "b", "", "b"), ("a", "", "a", "")]
        for held, char, after, emitted in rows:
            self.assertEqual(advance(steps, (held,), char), ((after,), emitted))
        self.assertEqual([finish(steps, (held,)) for held in ("", "a")], ["", "a"])

    def test_a_map(self):
        steps = Steps.of(("map", (("a", ""), ("b", "aa"))))
        self.assertEqual(advance(steps, ("",), "abc"), (("",), "aac"))
        self.assertEqual(finish(steps, ("",)), "")

    def test_no_steps(self):
        self.assertEqual(advance(Steps([]), (), "abc"), ((), "abc"))
        self.assertEqual(finish(Steps([]), ()), "")

    def test_the_end_goes_from_step_to_step(self):
        steps = Steps.of(("replace", "ab", "x"), ("squeeze", "a"), ("map", (("a", "bb"),)), ("replace", "bbb", "c"))
        self.assertEqual(advance(steps, start(steps), "baa"), (("a", "a", "", "b"), ""))
        self.assertEqual(finish(steps, ("a", "a", "", "b")), "c")
        self.assertEqual(finish(steps, ("a", "", "", "")), "bb")

    def test_held_against_the_words_of_the_point(self):
        for steps in many_lists(150, seed=2):
            for text in texts("ab", 4):
                held, emitted = [""] * len(steps), ""
                for char in text:
                    signs = char
                    for at, step in enumerate(steps):
                        out = ""
                        for sign in signs:
                            held[at], more = read_by_the_words(step, held[at], sign)
                            out += more
                        signs = out
                    emitted += signs
                self.assertEqual(advance(steps, start(steps), text), (tuple(held), emitted))

    def test_all_pieces_leave_what_the_whole_list_leaves(self):
        chance = random.Random(3)
        for steps in many_lists(60, seed=4) + many_lists(20, seed=5, letters="abc"):
            for text in ["", "a", "ab", "aabab", "babaa"] + [word(chance, "abcd", 7) for _ in range(4)]:
                for cut in pieces(text):
                    held, all_emitted = start(steps), ""
                    for piece in cut:
                        held, emitted = advance(steps, held, piece)
                        self.assertIsInstance(held, tuple)
                        all_emitted += emitted
                    self.assertEqual(all_emitted + finish(steps, held), steps(text))


if __name__ == "__main__":
    unittest.main()
