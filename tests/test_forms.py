"""Points 2 and 4 to 9: names, numbers and forms."""

import unittest
from itertools import product

from drawingoffice.errors import BadEnds, BadName, UnknownName, UnlikeEnds
from drawingoffice.forms import Form, measured
from small_cards import raised

GREAT = 10 ** 60 - 1


class Measured(unittest.TestCase):
    def test_one_time_the_measure(self):
        form = measured("m", low=-2, high=3)
        self.assertEqual((form.constant, form.terms), (0, (("m", 1, -2, 3),)))

    def test_names(self):
        for name in ["a", "z", "a1", "z09", "abcdefghijkl", "a" * 12, "frames", "fram", "frame0"]:
            self.assertEqual(measured(name, low=0, high=0).terms[0][0], name)
        for name in ["", "1a", "A", "aB", "a_b", "a b", " a", "a ", "a" * 13, "frame", "a-b", "a\n", "+a", "{", "`"]:
            self.assertEqual(raised(measured, name, low=0, high=0), (BadName, {"name": name}))

    def test_the_name_is_looked_at_before_the_ends(self):
        self.assertEqual(raised(measured, "frame", low=1, high=0), (BadName, {"name": "frame"}))
        self.assertEqual(raised(measured, "m", low=1, high=0), (BadEnds, {"low": 1, "high": 0}))

    def test_equal_ends_leave_a_term(self):
        self.assertEqual(measured("m", low=4, high=4).terms, (("m", 1, 4, 4),))

    def test_great_numbers(self):
        form = measured("m", low=-GREAT, high=GREAT) * GREAT + GREAT
        self.assertEqual(form.terms, (("m", GREAT, -GREAT, GREAT),))
        self.assertEqual((form.least, form.most), (GREAT - GREAT ** 2, GREAT + GREAT ** 2))
        self.assertEqual((form * form.most).constant, GREAT * (GREAT + GREAT ** 2))


class Operators(unittest.TestCase):
    def setUp(self):
        self.a = measured("a", low=0, high=4)
        self.b = measured("b", low=-1, high=1)

    def parts(self, form):
        return form.constant, [(name, times) for name, times, low, high in form.terms]

    def test_a_form_without_terms(self):
        self.assertEqual(self.parts(Form(7)), (7, []))
        self.assertEqual(Form(7).terms, ())

    def test_sums_and_differences(self):
        a, b = self.a, self.b
        self.assertEqual(self.parts(b + a), (0, [("a", 1), ("b", 1)]))
        self.assertEqual(self.parts(b - a), (0, [("a", -1), ("b", 1)]))
        self.assertEqual(self.parts(a + 3), (3, [("a", 1)]))
        self.assertEqual(self.parts(3 + a), (3, [("a", 1)]))
        self.assertEqual(self.parts(a - 3), (-3, [("a", 1)]))
        self.assertEqual(self.parts(3 - a), (3, [("a", -1)]))
        self.assertEqual(self.parts(a + Form(2) + a), (2, [("a", 2)]))

    def test_products_and_negatives(self):
        form = self.a * 2 - self.b + 5
        self.assertEqual(self.parts(form * 3), (15, [("a", 6), ("b", -3)]))
        self.assertEqual(self.parts(-2 * form), (-10, [("a", -4), ("b", 2)]))
        self.assertEqual(self.parts(-form), (-5, [("a", -2), ("b", 1)]))
        self.assertEqual(self.parts(form * 0), (0, []))
        self.assertEqual(self.parts(0 * form), (0, []))

    def test_multiples_that_add_up_to_zero(self):
        self.assertEqual((self.a - self.a).terms, ())
        self.assertEqual(self.parts(self.a * 2 + self.b - self.a - self.a), (0, [("b", 1)]))
        self.assertEqual(self.a - self.a, Form(0))

    def test_terms_ascend_by_name_in_the_order_of_strings(self):
        names = ["b", "a10", "a2", "a", "b0"]
        form = Form(0)
        for name in names:
            form = form + measured(name, low=0, high=1)
        self.assertEqual([term[0] for term in form.terms], ["a", "a10", "a2", "b", "b0"])

    def test_operands_stay(self):
        form = self.a + self.b
        form + 1, form * 2, -form, form - self.a
        self.assertEqual(self.parts(form), (0, [("a", 1), ("b", 1)]))
        self.assertEqual(self.parts(self.a), (0, [("a", 1)]))

    def test_equal(self):
        self.assertTrue(self.a + self.b == self.b + self.a)
        self.assertTrue(self.a + 1 != self.a)
        self.assertFalse(self.a == measured("a", low=0, high=5))
        self.assertFalse(self.a == self.b)
        self.assertFalse(self.a == self.a * 2)
        self.assertFalse(Form(3) == 3)
        self.assertFalse(3 == Form(3))
        self.assertTrue(Form(3) != 3)
        for other in [None, "3", (3, ()), [3]]:
            self.assertFalse(Form(3) == other)

    def test_unlike_ends(self):
        one = measured("b", low=0, high=1) + measured("a", low=0, high=1) + measured("c", low=0, high=1)
        two = measured("c", low=0, high=2) + measured("b", low=0, high=2) + measured("a", low=0, high=1)
        for action in [lambda: one + two, lambda: one - two, lambda: one <= two, lambda: one >= two,
                       lambda: two - one, lambda: -one + two]:
            self.assertEqual(raised(action), (UnlikeEnds, {"name": "b"}))

    def test_unlike_ends_where_the_multiples_add_up_to_zero(self):
        one, two = measured("m", low=0, high=1), measured("m", low=0, high=2)
        self.assertEqual(raised(lambda: one - two), (UnlikeEnds, {"name": "m"}))
        self.assertEqual(raised(lambda: one + two * -1), (UnlikeEnds, {"name": "m"}))
        self.assertEqual(raised(lambda: one <= two), (UnlikeEnds, {"name": "m"}))
        self.assertEqual((one * 0 + two).terms, (("m", 1, 0, 2),))

    def test_order_holds_for_all_values(self):
        forms = [Form(0), Form(2), self.a, self.b, self.a + self.b, self.a - 1, self.a * 2, self.b * -2 + 2,
                 self.a - self.b * 3, measured("c", low=2, high=2), measured("c", low=2, high=2) * -1 + 4]
        rows = [dict(zip("abc", row)) for row in product(range(0, 5), range(-1, 2), [2])]
        for one, two in product(forms, forms):
            below = all(one.value(row) <= two.value(row) for row in rows)
            above = all(one.value(row) >= two.value(row) for row in rows)
            self.assertIs(one <= two, below)
            self.assertIs(one >= two, above)

    def test_order_with_numbers(self):
        self.assertIs(self.a <= 4, True)
        self.assertIs(self.a <= 3, False)
        self.assertIs(self.a >= 0, True)
        self.assertIs(self.a >= 1, False)
        self.assertIs(4 >= self.a, True)
        self.assertIs(3 >= self.a, False)
        self.assertIs(0 <= self.a, True)
        self.assertIs(1 <= self.a, False)

    def test_a_measure_has_the_same_value_in_both(self):
        self.assertIs(self.a <= self.a + 1, True)
        self.assertIs(self.a <= self.a, True)
        self.assertIs(self.a >= self.a + 1, False)


class Values(unittest.TestCase):
    def setUp(self):
        self.form = measured("b", low=-1, high=3) * -2 + measured("a", low=0, high=4) * 3 + 5

    def test_value(self):
        self.assertEqual(self.form.value({"a": 1, "b": 2, "c": 9}), 4)
        self.assertEqual(self.form.value({"a": -100, "b": 50}), 5 - 300 - 100)
        self.assertEqual(Form(4).value({}), 4)

    def test_the_dict_stays(self):
        values = {"b": 2, "a": 1}
        self.form.value(values)
        self.assertEqual(list(values.items()), [("b", 2), ("a", 1)])

    def test_unknown_name(self):
        self.assertEqual(raised(self.form.value, {}), (UnknownName, {"name": "a"}))
        self.assertEqual(raised(self.form.value, {"a": 1}), (UnknownName, {"name": "b"}))
        self.assertEqual(raised(self.form.value, {"b": 1}), (UnknownName, {"name": "a"}))

    def test_least_and_most(self):
        self.assertEqual((self.form.least, self.form.most), (5 - 6, 5 + 12 + 2))
        self.assertEqual((Form(-3).least, Form(-3).most), (-3, -3))
        same = measured("m", low=4, high=4) * -2
        self.assertEqual((same.least, same.most), (-8, -8))


if __name__ == "__main__":
    unittest.main()
