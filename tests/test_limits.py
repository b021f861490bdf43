"""Point 35: limits."""

import unittest

from drawingoffice.limits import is_limit

GREAT = 10 ** 60 - 1


class Limits(unittest.TestCase):
    def test_limits(self):
        for value in [
            ("room", "p", "q", "abba", (2, (("m", 1), ("n", -3)))),
            ("room", "p", "frame", "", (0, ())),
            ("room", "frame", "p", "!~", (-GREAT, (("m", GREAT),))),
            ("reach", "p", "frame", (5, ())),
            ("reach", "frame", "a23456789012", (5, (("a", 1), ("a1", 1), ("b", -1)))),
        ]:
            self.assertIs(is_limit(value), True, value)

    def test_one_name_for_a_part_and_a_measure(self):
        self.assertTrue(is_limit(("reach", "p", "q", (5, (("p", 1), ("q", 2))))))
        self.assertTrue(is_limit(("room", "p", "q", "p", (5, (("p", 1),)))))

    def test_the_empty_tuple_and_other_words(self):
        for value in [(), ("",), ("room",), ("reach",), ("goes", ("a",)), ("reach ", "p", "q", (5, ())),
                      ("rooms", "p", "q", "a", (5, ()))]:
            self.assertIs(is_limit(value), False, value)

    def test_a_wrong_number_of_items(self):
        for value in [("room", "p", "q", (5, ())), ("reach", "p", "q", "a", (5, ())), ("room", "p", "q", "a"),
                      ("reach", "p", "q", (5, ()), 7), ("room", "p", "q", "a", (5, ()), (5, ()))]:
            self.assertIs(is_limit(value), False, value)

    def test_other_items_play_no_part_then(self):
        for value in [("walk", 5, [None]), ("room", {}, []), ("reach", 1, 2), ("", None, None, None, None)]:
            self.assertIs(is_limit(value), False)

    def test_parts(self):
        for part in ["", "P", "1p", "p q", "p-q", "a234567890123", "frame ", "p.", "p\n"]:
            self.assertIs(is_limit(("reach", part, "q", (5, ()))), False, part)
            self.assertIs(is_limit(("reach", "q", part, (5, ()))), False, part)
            self.assertIs(is_limit(("room", part, "q", "a", (5, ()))), False, part)
            self.assertIs(is_limit(("room", "q", part, "a", (5, ()))), False, part)

    def test_equal_parts(self):
        for part in ("p", "frame"):
            self.assertFalse(is_limit(("reach", part, part, (5, ()))))
            self.assertFalse(is_limit(("room", part, part, "a", (5, ()))))

    def test_stacks(self):
        for stack in ["a b", " ", "a\n", "\t", "5%", "%"]:
            self.assertFalse(is_limit(("room", "p", "q", stack, (5, ()))), stack)
        signs = "".join(chr(code) for code in range(ord("!"), ord("~") + 1) if chr(code) != "%")
        self.assertTrue(is_limit(("room", "p", "q", signs, (5, ()))))

    def test_names_in_the_terms(self):
        for name in ["frame", "", "M", "m m", "1", "a234567890123"]:
            self.assertFalse(is_limit(("reach", "p", "q", (5, ((name, 1),)))), name)
            self.assertFalse(is_limit(("room", "p", "q", "", (5, (("a", 2), (name, 1))))), name)

    def test_names_that_do_not_ascend_strictly(self):
        for terms in [(("m", 1), ("m", 2)), (("n", 1), ("m", 2)), (("a", 1), ("c", 1), ("b", 1)),
                      (("a1", 1), ("a", 1)), (("b", 1), ("c", 1), ("c", 1))]:
            self.assertFalse(is_limit(("reach", "p", "q", (5, terms))), terms)

    def test_times_of_0(self):
        self.assertFalse(is_limit(("reach", "p", "q", (5, (("m", 0),)))))
        self.assertFalse(is_limit(("room", "p", "q", "a", (5, (("m", 1), ("n", 0))))))
        self.assertTrue(is_limit(("reach", "p", "q", (0, (("m", -1),)))))


if __name__ == "__main__":
    unittest.main()
