"""load: which texts are tables, and the code and place of each fault."""

import unittest

from tests.helper import PLAIN, SHOWN, form_of, load, load_answer, run, wish

KINDS = {
    "columns": "columns",
    "row": "row",
    "ask": "ask",
    "times": "times",
    "name": "a",
    "number": "1",
    ",": ",",
    ":": ":",
    ";": ";",
    "-": "-",
    "end": "",
}

AFTER_ENTRY = ("row", "ask", "end")
# What may stand behind each beginning of a text.
ALLOWED = {
    "": ("columns",),
    "columns": ("name",),
    "columns b": (",", ";"),
    "columns b ,": ("name",),
    "columns b , c ;": AFTER_ENTRY,
    "columns a , b ; row": ("number",),
    "columns a , b ; row 0": (",",),
    "columns a , b ; row 0 ,": ("number",),
    "columns a , b ; row 0 , 0": (":",),
    "columns a , b ; row 0 , 0 :": ("number", "-"),
    "columns a , b ; row 0 , 0 : -": ("number",),
    "columns a , b ; row 0 , 0 : 1": (";",),
    "columns a , b ; row 0 , 0 : - 1": (";",),
    "columns a , b ; row 0 , 0 : 1 ;": AFTER_ENTRY,
    "columns a , b ; ask": ("name", "times", ";"),
    "columns a , b ; ask b": (",", "times", ";"),
    "columns a , b ; ask b ,": ("name",),
    "columns a , b ; ask times": ("number",),
    "columns a , b ; ask b times": ("number",),
    "columns a , b ; ask b times 2": (";",),
    "columns a , b ; ask b times 2 ;": AFTER_ENTRY,
    "columns a , b ; ask b ;": AFTER_ENTRY,
}


class FaultCase(unittest.TestCase):
    def assert_fault(self, text, code, place):
        self.assertEqual(load_answer(text), [0, code, place], text)

    def assert_fault_at(self, text, code):
        """The fault's place is marked with ^ in the text."""
        self.assert_fault(text.replace("^", ""), code, text.index("^"))

    def assert_right(self, text, columns, rows, questions):
        self.assertEqual(load_answer(text), [1, columns, rows, questions], text)


class RightTables(FaultCase):
    def test_columns_alone(self):
        self.assert_right("columns a ;", 1, 0, 0)
        self.assert_right("columns a,b,c,d;", 4, 0, 0)

    def test_rows_and_questions_mixed(self):
        text = "columns a, b ; ask b ; row 1, 2 : 3 ; ask times 5 ; ask a ; row 4, 5 : 6 ;"
        self.assert_right(text, 2, 2, 3)
        form = "columns a, b ;\nrow 1, 2 : 3 ;\nrow 4, 5 : 6 ;\nask b ;\nask times 5 ;\nask a ;\n"
        self.assertEqual(form_of(text), form)

    def test_gaps_between_any_two_tokens_and_at_both_ends(self):
        tokens = "columns a , b ; row 0 , 9 : - 7 ; ask b , a times 2 ; ask times 3 ;".split()
        form = "columns a, b ;\nrow 0, 9 : -7 ;\nask a, b times 2 ;\nask times 3 ;\n"
        for gap in (" ", "\t", "\n", " \t\n\n ", "#\n", "# row ; ! ~#\n", " #a\n\t#b\n"):
            text = gap + gap.join(tokens) + gap
            self.assert_right(text, 2, 1, 2)
            self.assertEqual(form_of(text), form)

    def test_no_gaps_where_none_are_needed(self):
        text = "columns a,b;row 0,9:-7;ask b,a times 2;ask;"
        self.assertEqual(form_of(text), "columns a, b ;\nrow 0, 9 : -7 ;\nask a, b times 2 ;\nask ;\n")

    def test_remark_ended_by_the_text(self):
        self.assert_right("columns a ; # row", 1, 0, 0)
        self.assert_right("columns a ;#", 1, 0, 0)
        self.assert_fault("columns a # ;", 3, 13)

    def test_remark_with_any_byte_but_a_line_feed(self):
        remark = [byte for byte in range(256) if byte != 10]
        text = [35] + remark + [10] + list(b"columns a ;") + [35] + remark
        self.assert_right(text, 1, 0, 0)

    def test_times_left_out(self):
        self.assertEqual(form_of("columns a ; ask a ; ask a times 1 ;"), "columns a ;\nask a ;\nask a ;\n")

    def test_questions_without_columns(self):
        text = "columns a ; ask times 4 ; ask times 1 ; ask ;"
        self.assert_right(text, 1, 0, 3)
        self.assertEqual(form_of(text), "columns a ;\nask times 4 ;\nask ;\nask ;\n")

    def test_names(self):
        text = "columns Row, rows, a1, Z9z ; ask Z9z ; ask Row, rows ;"
        self.assertEqual(form_of(text), "columns Row, rows, a1, Z9z ;\nask Z9z ;\nask Row, rows ;\n")
        self.assertEqual(form_of("columns a, A ; ask A ;"), "columns a, A ;\nask A ;\n")
        self.assertEqual(form_of("columns name, end, number ;"), "columns name, end, number ;\n")


class TooLong(FaultCase):
    def test_4096_and_4097_bytes(self):
        text = "columns a ;"
        self.assert_right(text.ljust(4096), 1, 0, 0)
        self.assert_fault(text.ljust(4097), 1, 4096)
        self.assert_fault(text.ljust(8192), 1, 4096)
        self.assert_fault(text + "#" * 4086, 1, 4096)

    def test_ahead_of_every_other_fault(self):
        self.assert_fault("!" * 4096, 2, 0)
        self.assert_fault("!" * 4097, 1, 4096)
        self.assert_fault(";" * 4097, 1, 4096)


class NoToken(FaultCase):
    def test_name_of_16_and_17_bytes(self):
        name = "abcdefghijklmno1"
        self.assertEqual(form_of("columns " + name + " ;"), "columns " + name + " ;\n")
        self.assert_fault("columns " + name + "2 ;", 2, 8)
        self.assert_fault("columns " + "x" * 4000 + " ;", 2, 8)
        self.assert_fault("columns a ; ask columnscolumnscol ;", 2, 16)

    def test_number_at_the_limit_and_above(self):
        self.assert_fault("columns a ; row 1000000000 : 1 ;", 7, 16)
        self.assert_fault("columns a ; row 1000000001 : 1 ;", 2, 16)
        self.assert_fault("columns a ; row 9999999999 : 1 ;", 2, 16)
        self.assert_fault("columns a ; row 10000000000 : 1 ;", 2, 16)
        self.assert_fault("columns a ; row " + "9" * 4070 + " : 1 ;", 2, 16)

    def test_needless_zero(self):
        self.assert_right("columns a ; row 0 : 0 ;", 1, 1, 0)
        for digits in ("00", "01", "007", "0" * 4000):
            self.assert_fault("columns a ; row " + digits + " : 1 ;", 2, 16)
        self.assert_fault("columns a ; row 0 : -00 ;", 2, 21)
        self.assert_fault("columns a ; ask times 01 ;", 2, 22)

    def test_bytes_that_begin_no_token(self):
        begins = b"ABCDEFGHIJKLMNOPQRSTUVWXYZabcdefghijklmnopqrstuvwxyz0123456789,:;- \t\n#"
        for byte in range(256):
            answer = load_answer(list(b"columns a ;") + [byte])
            if byte in begins:
                self.assertNotEqual(answer[:2], [0, 2], byte)
            else:
                self.assertEqual(answer, [0, 2, 11], byte)

    def test_such_a_byte_ends_a_name_and_a_number(self):
        self.assert_fault("columns a_b ;", 2, 9)
        self.assert_fault("columns a ; row 1. : 1 ;", 2, 17)
        self.assert_fault("columns a\r;", 2, 9)

    def test_number_and_name_side_by_side_are_two_tokens(self):
        self.assert_fault("columns 0a ;", 3, 8)
        self.assert_fault("columns a ; ask times 2a ;", 3, 23)
        self.assert_right("columns a;ask times 2;row 1:2;", 1, 1, 1)

    def test_told_ahead_of_the_faults_with_greater_codes(self):
        self.assert_fault_at("^! row ;", 2)
        self.assert_fault_at("columns a, a ; ^!", 2)
        self.assert_fault_at("row ; columns ^007", 2)
        self.assert_fault_at("columns a ; ask b ; row 10 : ^1000000001", 2)
        self.assert_fault_at("columns ^abcdefghijklmnopq, ; !", 2)
        self.assert_fault_at("columns a ; row 10 : 1 ; # !\n ^.", 2)
        self.assert_fault_at("columns a, ^a ; # !", 5)


class NotAllowed(FaultCase):
    def test_each_token_behind_each_beginning(self):
        for beginning, allowed in ALLOWED.items():
            text = beginning + " " if beginning else ""
            for kind, spelling in KINDS.items():
                answer = load_answer(text + spelling)
                if kind not in allowed:
                    self.assertEqual(answer, [0, 3, len(text)], (beginning, kind))
                else:
                    self.assertNotEqual(answer, [0, 3, len(text)], (beginning, kind))

    def test_place_of_the_end(self):
        self.assert_fault("", 3, 0)
        self.assert_fault(" \n\t", 3, 3)
        self.assert_fault("# columns a ;", 3, 13)
        self.assert_fault("columns a", 3, 9)
        self.assert_fault("columns a  ", 3, 11)
        self.assert_fault("columns a ; row 0 : 1 # ;\n", 3, 26)

    def test_words_where_a_name_has_to_stand(self):
        for word in ("columns", "row", "ask", "times"):
            self.assert_fault_at("columns ^" + word + " ;", 3)
            self.assert_fault_at("columns a, ^" + word + " ;", 3)
            self.assert_fault_at("columns a ; ask a, ^" + word + " ;", 3)

    def test_as_many_values_as_columns(self):
        self.assert_fault_at("columns a ; row 0^, 0 : 1 ;", 3)
        self.assert_fault_at("columns a, b ; row 0 ^: 1 ;", 3)
        self.assert_fault_at("columns a, b ; row 0, 0^, 0 : 1 ;", 3)
        self.assert_fault_at("columns a, b, c, d ; row 0, 0, 0 ^: 1 ;", 3)

    def test_first_fault_from_the_left(self):
        self.assert_fault_at("columns a ; ask ^b ; row ;", 8)
        self.assert_fault_at("columns a ; row ^; ask b ;", 3)


class TooMany(FaultCase):
    def test_columns(self):
        self.assert_right("columns a, b, c, d ;", 4, 0, 0)
        self.assert_fault_at("columns a, b, c, d, ^e ;", 4)
        self.assert_fault_at("columns a, b, c, d, ^e, f ;", 4)

    def test_no_name_behind_the_fifth_columns_comma(self):
        for spelling in (";", "row", "1", ",", ""):
            self.assert_fault_at("columns a, b, c, d, ^" + spelling, 3)

    def test_rows(self):
        text = "columns a ; " + "row 1 : 1 ; " * 16
        self.assert_right(text, 1, 16, 0)
        self.assert_right(text + "ask a ;", 1, 16, 1)
        self.assert_fault_at(text + "^row 1 : 1 ;", 4)
        self.assert_fault_at(text + "ask ; ^row", 4)

    def test_questions(self):
        text = "columns a ; " + "ask a ; " * 8
        self.assert_right(text, 1, 0, 8)
        self.assert_right(text + "row 1 : 1 ;", 1, 1, 8)
        self.assert_fault_at(text + "^ask a ;", 4)
        self.assert_fault_at(text + "row 1 : 1 ; ^ask", 4)


class NamesAndRanges(FaultCase):
    def test_column_told_before(self):
        self.assert_fault_at("columns a, ^a ;", 5)
        self.assert_fault_at("columns a, b, c, ^b ;", 5)

    def test_column_twice_in_a_question(self):
        self.assert_fault_at("columns a, b ; ask a, ^a ;", 6)
        self.assert_fault_at("columns a, b ; ask b, a, ^b times 0 ;", 6)
        self.assert_right("columns a, b ; ask a, b ; ask a, b ;", 2, 0, 2)

    def test_no_column(self):
        self.assert_fault_at("columns a, b ; ask ^c ;", 8)
        self.assert_fault_at("columns a, b ; ask a, ^A ;", 8)
        self.assert_fault_at("columns a, b ; ask a, ^aa, a ;", 8)

    def test_value(self):
        self.assert_right("columns a, b ; row 9, 9 : 1 ;", 2, 1, 0)
        self.assert_right("columns a, b ; row 0, 0 : 1 ;", 2, 1, 0)
        self.assert_fault_at("columns a, b ; row ^10, 10 : 1 ;", 7)
        self.assert_fault_at("columns a, b ; row 0, ^10 : 1 ;", 7)

    def test_summed(self):
        for told in ("1000", "0", "-0", "-1000", "- 1000"):
            self.assert_right("columns a ; row 1 : " + told + " ;", 1, 1, 0)
        self.assert_fault_at("columns a ; row 1 : ^1001 ;", 7)
        self.assert_fault_at("columns a ; row 1 : -^1001 ;", 7)
        self.assert_fault_at("columns a ; row 1 : - ^1001 ;", 7)

    def test_times(self):
        self.assert_right("columns a ; ask a times 1 ; ask times 99 ;", 1, 0, 2)
        self.assert_fault_at("columns a ; ask a times ^0 ;", 7)
        self.assert_fault_at("columns a ; ask times ^100 ;", 7)


class TwoFaultsAtOneToken(FaultCase):
    def test_the_lesser_number_is_told(self):
        self.assert_fault_at("columns a, b, c, d, ^a ;", 4)
        self.assert_fault_at("columns ^1000000000 ;", 3)
        self.assert_fault_at("columns a ; row 0 ^10 : 1 ;", 3)
        self.assert_fault_at("columns a ; ask a ^b ;", 3)
        self.assert_fault_at("columns a ; ask a ^a ;", 3)
        self.assert_fault_at("columns a ; " + "row 1 : 1 ; " * 16 + "ask ^row ;", 3)
        self.assert_fault_at("columns a ; " + "ask ; " * 8 + "row ^ask ;", 3)


class Held(unittest.TestCase):
    def test_a_load_that_fails_changes_nothing(self):
        text = "columns a, b ; row 1, 2 : 3 ; row 1, 3 : 4 ; ask b ;"
        wrong = ("", "columns a ; row 10 : 1 ;", "columns c ; row 1 : 1 ; !", " " * 4097)
        for bad in wrong:
            told = run(load(text), wish(1, 2), SHOWN, PLAIN, load(bad), SHOWN, PLAIN)
            self.assertEqual(told[4][0], 0)
            self.assertEqual(told[5:7], told[2:4])

    def test_a_first_load_that_fails_leaves_no_table(self):
        self.assertEqual(run(load("columns"), SHOWN, wish(), PLAIN), [[0, 3, 7], [-1], [-1], [-1]])

    def test_a_right_load_ends_what_was_wished(self):
        first = "columns a, b ; row 1, 2 : 3 ;"
        second = "columns x ; row 4 : 5 ;"
        told = run(load(first), wish(1, 3), load(second), PLAIN, SHOWN, load(first), PLAIN)
        self.assertEqual(told[2], [1, 1, 1, 0])
        self.assertEqual(told[3], [0, 0])
        self.assertEqual(bytes(told[4][1:]), b"columns x ;\nrow 4 : 5 ;\n")
        self.assertEqual(told[6], [0, 0])


if __name__ == "__main__":
    unittest.main()
