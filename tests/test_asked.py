import unittest

import plain
from plain import all_forms, all_pins, all_texts, fibonacci, scrambled, sign_behind, touched_at
from touchpin.asked import first_strange, seek
from touchpin.copies import cut, pins_of

LETTERS = "abcdefghijklmnopqrstuvwxyz"
LONG = ["a" * 300, "ab" * 150, (LETTERS * 12)[:300], fibonacci(300), scrambled("ab", 300), scrambled(LETTERS, 300),
        "a" * 299 + "b", "b" + "a" * 299, "a" * 150 + "b" * 150]
A, B = ("sign", "a"), ("sign", "b")
BEHIND = (A,) + tuple(("copy", place, 1) for place in range(299))
AHEAD = tuple(("copy", place, 1) for place in range(1, 300)) + (B,)


def plain_text(form):
    """The text of a form, or None where it goes round."""
    signs = sum(1 if part[0] == "sign" else part[2] for part in form)
    behind = [sign_behind(form, place) for place in range(signs)]
    return None if None in behind else "".join(letter for letter, _ in behind)


class Seek(unittest.TestCase):
    def check(self, form, text, pins, piece):
        wanted = min(touched_at(text, pins, piece), default=None)
        told = seek(form, pins, piece)
        self.assertEqual(told, wanted, (form, pins, piece))
        self.assertIs(type(told), type(wanted))

    def test_written_out(self):
        form = (B, A, ("sign", "n"), ("copy", 1, 3))
        self.assertEqual(seek(form, (0, 1, 2), "ana"), 1)
        self.assertEqual(seek(form, (5,), "ana"), 3)
        self.assertEqual(seek(form, (0, 5), "na"), 4)
        self.assertEqual(seek(form, (0, 2, 5), "na"), 2)
        self.assertIs(seek(form, (0, 2), "a"), None)
        self.assertEqual(seek(form, (0, 2), "an"), 1)
        self.assertEqual(seek(form, (3,), "banana"), 0)

    def test_stands_but_under_no_pin(self):
        self.assertIs(seek(cut("abxab"), (2,), "ab"), None)
        self.assertEqual(seek(cut("abxab"), (2,), "abx"), 0)
        self.assertEqual(seek(cut("abxab"), (2, 4), "ab"), 3)
        self.assertEqual(seek(cut("abxab"), (2, 3), "ab"), 3)

    def test_a_pin_right_ahead_and_right_behind(self):
        self.assertIs(seek(cut("xabx"), (0, 3), "ab"), None)
        self.assertEqual(seek(cut("xabx"), (0, 1, 3), "ab"), 1)
        self.assertEqual(seek(cut("xabx"), (0, 2, 3), "ab"), 1)

    def test_no_pins(self):
        for text in all_texts("ab", 4):
            for piece in ["a", "b", "ab", "aaaaaaaa"]:
                self.assertIs(seek(cut(text), (), piece), None)

    def test_no_signs(self):
        self.assertIs(seek((), (), "a"), None)
        self.assertIs(seek((), (), "a" * 400), None)

    def test_the_least_place(self):
        self.assertEqual(seek((A, ("copy", 0, 299)), (299,), "a" * 5), 295)
        self.assertEqual(seek((A, ("copy", 0, 299)), (100, 299), "a" * 5), 96)
        self.assertEqual(seek((A, ("copy", 0, 299)), (2,), "a" * 5), 0)
        self.assertEqual(seek((A, ("copy", 0, 299)), tuple(range(300)), "a"), 0)

    def test_small_forms_and_all_pins(self):
        asked = all_texts("ab", 3)[1:] + ["c", "ac", "aabb", "ababa"]
        for signs in range(5):
            for form in all_forms("ab", signs):
                text = plain_text(form)
                if text is not None:
                    for pins in all_pins(text)[::3]:
                        for piece in asked[::2]:
                            self.check(form, text, pins, piece)

    def test_small_texts_and_all_pins(self):
        asked = all_texts("ab", 4)[1:] + ["c", "abc"]
        for text in all_texts("ab", 5):
            for pins in all_pins(text):
                for piece in asked:
                    self.check(cut(text), text, pins, piece)

    def test_where_the_pins_hold(self):
        asked = all_texts("abc", 4)[1:]
        for text in all_texts("ab", 5):
            for pins in all_pins(text):
                if plain.first_missed(text, pins) is None:
                    for piece in asked:
                        self.assertIs(seek(cut(text), pins, piece) is None, piece not in text, (text, pins, piece))

    def test_each_copied_from_the_next_one(self):
        for form, text in [(BEHIND, "a" * 300), (AHEAD, "b" * 300)]:
            for pins in [(), (0,), (150,), (299,), (3, 200), tuple(range(300))]:
                for many in (1, 2, 150, 299, 300, 301, 500):
                    self.check(form, text, pins, text[0] * many)
                self.check(form, text, pins, "ab")

    def test_300_signs(self):
        for text in LONG:
            form = cut(text)
            for pins in [(), pins_of(form), (150,), tuple(range(300))]:
                for piece in [text, text + "a", text[7:9], text[100:150], text[-5:], "q", "aabb", "zz"]:
                    self.check(form, text, pins, piece)
            for start in range(0, 300, 17):
                for many in (1, 3, 10, 100):
                    self.assertIsNotNone(seek(form, pins_of(form), text[start:start + many]))

    def test_by_name(self):
        self.assertEqual(seek(piece="a", pins=(1,), form=(A, ("copy", 0, 1))), 1)


class FirstStrange(unittest.TestCase):
    def test_written_out(self):
        self.assertIs(first_strange("banana", "nan"), None)
        self.assertEqual(first_strange("banana", "naan"), "aa")
        self.assertEqual(first_strange("banana", "xnay"), "x")
        self.assertEqual(first_strange("banana", "yx"), "x")
        self.assertEqual(first_strange("abab", "ababa"), "baba")

    def test_a_shortest_one_and_of_these_the_least(self):
        self.assertEqual(first_strange("ab", "aac"), "c")
        self.assertEqual(first_strange("ab", "bbaa"), "aa")
        self.assertEqual(first_strange("abc", "cbaabc"), "aa")
        self.assertEqual(first_strange("aab", "aaaba"), "ba")

    def test_no_signs(self):
        for text in all_texts("ab", 4):
            self.assertIs(first_strange(text, ""), None)
        self.assertEqual(first_strange("", "ba"), "a")
        self.assertIs(first_strange("", ""), None)

    def test_the_same(self):
        for text in all_texts("abc", 4) + LONG:
            self.assertIs(first_strange(text, text), None)

    def test_as_the_document_says(self):
        texts = all_texts("ab", 5) + all_texts("abc", 3) + ["ddd"]
        for text in texts:
            for other in texts:
                self.assertEqual(first_strange(text, other), plain.first_strange(text, other), (text, other))

    def test_300_signs(self):
        for text in LONG:
            self.assertIs(first_strange(text, text[:299]), None)
            self.assertIs(first_strange(text, text[1:]), None)
            self.assertEqual(first_strange(text[1:], text), plain.first_strange(text[1:], text))
        self.assertEqual(first_strange("a" * 299, "a" * 300), "a" * 300)
        self.assertEqual(first_strange("ab" * 150, "ba" * 150), "ba" * 150)
        self.assertEqual(first_strange("a" * 300, "a" * 299 + "b"), "b")
        self.assertEqual(first_strange(LONG[3], LONG[4]), plain.first_strange(LONG[3], LONG[4]))
        self.assertEqual(first_strange(LONG[2], LONG[5]), plain.first_strange(LONG[2], LONG[5]))

    def test_by_name(self):
        self.assertEqual(first_strange(other="ab", text="a"), "b")


if __name__ == "__main__":
    unittest.main()
