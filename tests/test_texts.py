import unittest

from plain import all_forms, all_texts, fibonacci, scrambled, some_rows
from touchpin.copies import cut, is_copies
from touchpin.errors import NoText
from touchpin.rows import is_rows
from touchpin.texts import form_text, read_form, read_rows, rows_text

LETTERS = "abcdefghijklmnopqrstuvwxyz"
A, B = ("sign", "a"), ("sign", "b")
CHAIN = (("a",),) + tuple((number,) for number in range(59))
DOUBLING = (("a",),) + tuple((number, number) for number in range(59))
# Every sign that a text may have, line feed and tab, too.
SIGNS = ["\n", "\t"] + [chr(at) for at in range(ord(" "), ord("~") + 1) if chr(at) != "%"]
NO_NUMBERS = ["", "00", "01", "007", "-1", "+1", "1000", "0000", "0001", "1_0", "1.", "1,", "xy", "1a", "a1", "\t1",
              "1\n"]


class Refused(unittest.TestCase):
    def check_refused(self, ask, text, number):
        with self.assertRaises(NoText) as caught:
            ask(text)
        self.assertIs(type(caught.exception), NoText)
        self.assertEqual(caught.exception.number, number, text)
        self.assertIs(type(caught.exception.number), int)


class Forms(Refused):
    def check_no_form(self, text, number):
        self.check_refused(read_form, text, number)

    def test_written(self):
        self.assertEqual(form_text(()), "")
        self.assertEqual(form_text((A,)), "a")
        self.assertEqual(form_text((A, B, ("copy", 0, 3), ("sign", "z"))), "a b 0:3 z")
        self.assertEqual(form_text((("copy", 0, 300),)), "0:300")
        self.assertEqual(form_text((("copy", 10, 290), ("copy", 299, 1))), "10:290 299:1")

    def test_read(self):
        self.assertEqual(read_form(""), ())
        self.assertEqual(read_form("a"), (A,))
        self.assertEqual(read_form("a b 0:3 z"), (A, B, ("copy", 0, 3), ("sign", "z")))
        self.assertEqual(read_form("0:300"), (("copy", 0, 300),))
        self.assertEqual(read_form("2:290 291:1 a"), (("copy", 2, 290), ("copy", 291, 1), A))

    def test_there_and_back(self):
        forms = [form for signs in range(5) for form in all_forms("az", signs)]
        forms += [cut(text) for text in all_texts("abc", 5) + ["a" * 300, fibonacci(300), scrambled(LETTERS, 300)]]
        forms += [tuple([A] * 300), tuple(("copy", place, 1) for place in range(300)), (("copy", 150, 150),) * 2]
        for form in forms:
            told = read_form(form_text(form))
            self.assertEqual(told, form)
            self.assertIs(is_copies(told), True)
            self.assertTrue(all(type(part) is tuple for part in told))
            self.assertEqual(form_text(told), form_text(form))

    def test_forms_that_go_round(self):
        for text in ["0:1", "1:1 0:1", "a 1:1", "0:300"]:
            self.assertEqual(form_text(read_form(text)), text)

    def test_words_of_one_sign(self):
        for sign in SIGNS:
            if sign in LETTERS:
                self.assertEqual(read_form(sign), (("sign", sign),))
            else:
                self.check_no_form(sign, 0)
                self.check_no_form("a " + sign + " b", 1)

    def test_words_that_write_no_part(self):
        words = ["A", "Z", "ab", "aa", "-", "1", "0", ":", "0:", ":1", "::", "0:1:", ":0:1", "0::1", "0:1:1", "0:0",
                 "1:0", "a:1", "0:a", "A:1", "-0:1", "0:-1", "+0:1", "0:+1", "0;1", "0:1.", "0,1", "0:1,", "(0:1)",
                 "a\t", "\ta", "a\n", "\na", "0:1\n", "0\t:1", "a\tb", "a\nb", "\t", "\n", "0:1\t0:1", "sign", "copy"]
        for word in words:
            self.check_no_form(word, 0)
            self.check_no_form(word + " a", 0)
            self.check_no_form("a b " + word, 2)
            self.check_no_form("a b " + word + " A", 2)

    def test_numbers_written_otherwise(self):
        for number in NO_NUMBERS:
            if " " not in number:
                self.check_no_form("a b " + number + ":1", 2)
                self.check_no_form("a b 0:" + number, 2)
        self.check_no_form("0:1000", 0)
        self.check_no_form("a 1000:1", 1)
        # A number of three figures writes a part, if one beyond the signs, and so a later word goes first.
        self.check_no_form("a 999:1 A", 2)
        self.check_no_form("a 1000:1 A", 1)
        self.check_no_form("a 0000:1", 1)

    def test_blanks(self):
        self.check_no_form(" ", 0)
        self.check_no_form("  ", 0)
        self.check_no_form(" a", 0)
        self.check_no_form("a ", 1)
        self.check_no_form("a  b", 1)
        self.check_no_form("a b 0:1 ", 3)
        self.check_no_form("a b  0:1", 2)

    def test_more_than_300_signs(self):
        self.check_no_form("0:301", 0)
        self.check_no_form("0:999", 0)
        self.check_no_form("0:300 a", 1)
        self.check_no_form("a 0:300", 1)
        self.check_no_form(" ".join("a" * 301), 300)
        self.check_no_form(" ".join("a" * 400), 300)
        self.check_no_form("0:150 0:150 0:1 a", 2)
        self.check_no_form("0:299 0:2 a", 1)
        self.assertEqual(len(read_form(" ".join("a" * 300))), 300)
        self.assertEqual(read_form("0:150 0:150"), (("copy", 0, 150), ("copy", 0, 150)))

    def test_the_first_word_of_all_that_are_not_so(self):
        self.check_no_form("a 0:301 A", 1)
        self.check_no_form("a A 0:301", 1)
        self.check_no_form("0:300 A a", 1)
        self.check_no_form("0:200 0:200 A", 1)

    def test_copies_beyond(self):
        self.check_no_form("1:1", 0)
        self.check_no_form("999:1", 0)
        self.check_no_form("a 2:2", 1)
        self.check_no_form("a 2:1", 1)
        self.check_no_form("a 2:1 b 4:1 5:1", 4)
        self.check_no_form("a 3:1 3:2", 2)
        self.check_no_form("1:300", 0)
        self.check_no_form("a 2:299", 1)
        self.assertEqual(read_form("a 1:1"), (A, ("copy", 1, 1)))
        self.assertEqual(read_form("2:1 b a"), (("copy", 2, 1), B, A))

    def test_copies_beyond_only_when_all_others_are_so(self):
        self.check_no_form("9:1 a A", 2)
        self.check_no_form("9:1 a ", 2)
        self.check_no_form("9:1 0:299 a", 2)
        self.check_no_form("9:1 a 9:1", 0)

    def test_by_name(self):
        self.assertEqual(form_text(form=(A,)), "a")
        self.assertEqual(read_form(text="a"), (A,))


class Rows(Refused):
    def check_no_rows(self, text, number):
        self.check_refused(read_rows, text, number)

    def test_written(self):
        self.assertEqual(rows_text((("a",),)), "a")
        self.assertEqual(rows_text((("a", "b"), ("c", 0), (1, 0, 1, "d"))), "a b\nc 0\n1 0 1 d")
        self.assertEqual(rows_text(CHAIN)[-8:], "56\n57\n58")

    def test_read(self):
        self.assertEqual(read_rows("a"), (("a",),))
        self.assertEqual(read_rows("a b\nc 0\n1 0 1 d"), (("a", "b"), ("c", 0), (1, 0, 1, "d")))

    def test_there_and_back(self):
        for rows in [some_rows(state) for state in range(300)] + [CHAIN, (("a",) * 12, (0,) * 12)]:
            told = read_rows(rows_text(rows))
            self.assertEqual(told, rows)
            self.assertIs(is_rows(told), True)
            self.assertEqual(rows_text(told), rows_text(rows))

    def test_read_however_long_their_texts_are(self):
        for rows in [DOUBLING, (("a",),) + tuple((number,) * 12 for number in range(59))]:
            self.assertEqual(read_rows(rows_text(rows)), rows)

    def test_no_signs(self):
        self.check_no_rows("", 0)

    def test_lines_with_no_item(self):
        self.check_no_rows("\n", 0)
        self.check_no_rows("\na", 0)
        self.check_no_rows("a\n", 1)
        self.check_no_rows("a\n\n", 1)
        self.check_no_rows("a\n\nb", 1)
        self.check_no_rows("a\nb\n", 2)
        self.check_no_rows("\n".join("a" * 59) + "\n", 59)

    def test_twelve_items_and_thirteen(self):
        for many in range(1, 20):
            line = " ".join("a" * many)
            if many <= 12:
                self.assertEqual(read_rows(line), (("a",) * many,))
                self.assertEqual(read_rows("b\n" + line), (("b",), ("a",) * many))
            else:
                self.check_no_rows(line, 0)
                self.check_no_rows("b\n" + line + "\nA", 1)
                self.check_no_rows("b\n" + line.replace("a", "0"), 1)

    def test_items_that_are_none(self):
        for sign in SIGNS:
            if sign not in "\n" and sign not in LETTERS and sign != "0":
                self.check_no_rows(sign, 0)
                self.check_no_rows("a\n0 " + sign, 1)
        for item in ["A", "ab", "aa", "a0", "0a", "-", "0:1", "a\t", "\ta", "a\tb"] + NO_NUMBERS[:-1]:
            self.check_no_rows(item, 0)
            self.check_no_rows("a\nb\n" + item, 2)
            self.check_no_rows("a\nb " + item + " 0\nc", 1)

    def test_numbers_of_no_earlier_row(self):
        for number in range(60):
            ahead = "".join("a\n" for _ in range(number))
            for item in (0, 1, number - 1, number, number + 1, 59, 60, 999):
                if item >= 0:
                    text = ahead + "b " + str(item)
                    if item < number:
                        self.assertEqual(read_rows(text)[-1], ("b", item))
                    else:
                        self.check_no_rows(text, number)
                        self.check_no_rows(text + "\nA", number)

    def test_blanks(self):
        self.check_no_rows(" ", 0)
        self.check_no_rows(" a", 0)
        self.check_no_rows("a ", 0)
        self.check_no_rows("a  b", 0)
        self.check_no_rows("a\n 0", 1)
        self.check_no_rows("a\n0 \n0", 1)
        self.check_no_rows("a\nb  0", 1)
        self.check_no_rows("a\nb\n ", 2)

    def test_the_sixty_first_line(self):
        self.assertEqual(len(read_rows("\n".join("a" * 60))), 60)
        self.check_no_rows("\n".join("a" * 61), 60)
        self.check_no_rows("\n".join("a" * 70), 60)
        self.check_no_rows(rows_text(CHAIN) + "\n59", 60)
        self.check_no_rows(rows_text(CHAIN) + "\n", 60)
        self.check_no_rows("\n".join("a" * 30) + "\nA\n" + "\n".join("a" * 40), 30)

    def test_by_name(self):
        self.assertEqual(rows_text(rows=(("a",),)), "a")
        self.assertEqual(read_rows(text="a"), (("a",),))


if __name__ == "__main__":
    unittest.main()
