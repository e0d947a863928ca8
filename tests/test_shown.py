"""shown: the one form, byte by byte."""

import unittest

from tests.helper import SHOWN, form_of, load, run


class Shown(unittest.TestCase):
    def test_count_and_bytes(self):
        form = [99, 111, 108, 117, 109, 110, 115, 32, 97, 32, 59, 10]
        self.assertEqual(run(load("columns a;"), SHOWN)[1], [12] + form)

    def test_commas_colons_and_line_ends(self):
        self.assertEqual(
            form_of("columns a,bb,C3;row 0,1,2:10;ask a,C3 times 7;"),
            "columns a, bb, C3 ;\nrow 0, 1, 2 : 10 ;\nask a, C3 times 7 ;\n",
        )

    def test_summed_below_zero(self):
        self.assertEqual(form_of("columns a ; row 1 : - # gap\n 5 ;"), "columns a ;\nrow 1 : -5 ;\n")
        self.assertEqual(form_of("columns a ; row 1 : -1000 ;"), "columns a ;\nrow 1 : -1000 ;\n")

    def test_summed_minus_zero(self):
        self.assertEqual(form_of("columns a ; row 1 : -0 ;"), "columns a ;\nrow 1 : 0 ;\n")

    def test_times(self):
        self.assertEqual(
            form_of("columns a ; ask a times 1 ; ask a times 2 ; ask times 99 ; ask times 1 ;"),
            "columns a ;\nask a ;\nask a times 2 ;\nask times 99 ;\nask ;\n",
        )

    def test_columns_of_a_question_in_order_of_their_numbers(self):
        self.assertEqual(
            form_of("columns d, c, b, a ; ask a, b, c, d ; ask b, d times 3 ; ask a, c ;"),
            "columns d, c, b, a ;\nask d, c, b, a ;\nask d, b times 3 ;\nask c, a ;\n",
        )

    def test_rows_ahead_of_questions_each_in_the_order_told(self):
        self.assertEqual(
            form_of("columns a ; ask a ; row 3 : 1 ; ask ; row 2 : 2 ; row 3 : 1 ;"),
            "columns a ;\nrow 3 : 1 ;\nrow 2 : 2 ;\nrow 3 : 1 ;\nask a ;\nask ;\n",
        )

    def test_the_one_form_is_its_own_form(self):
        form = form_of("columns a,b;ask b,a times 3;row 1,2:-0;row 9,0:-7;ask;")
        self.assertEqual(form_of(form), form)

    def test_the_greatest_form(self):
        text = "columns " + ", ".join([letter * 16 for letter in "abcd"]) + " ;"
        text += "row 9, 9, 9, 9 : -1000 ;" * 16
        text += ("ask " + ", ".join([letter * 16 for letter in "dcba"]) + " times 99 ;") * 8
        form = form_of(text)
        self.assertEqual(form.count("\n"), 25)
        self.assertEqual(form_of(form), form)


if __name__ == "__main__":
    unittest.main()
