import unittest

import plain
from plain import all_pins, all_texts, fibonacci, scrambled, sign_behind, spans_from, touched_at
from touchpin.back import copies_from
from touchpin.copies import cut, followed, is_copies, pins_of, text_of
from touchpin.errors import Missed
from touchpin.turns import pins_of_turns

LETTERS = "abcdefghijklmnopqrstuvwxyz"
LONG = ["a" * 300, "ab" * 150, (LETTERS * 12)[:300], fibonacci(300), scrambled("ab", 300), scrambled(LETTERS, 300),
        "a" * 299 + "b", "b" + "a" * 299, "a" * 150 + "b" * 150]


class CopiesFrom(unittest.TestCase):
    def check(self, text, pins):
        form = copies_from(text, pins)
        self.assertIs(is_copies(form), True, (text, pins))
        self.assertEqual(text_of(form), text)
        self.check_parts(text, pins, form)
        for place in range(len(text)):
            self.check_followed(form, pins, place)
        return form

    def check_parts(self, text, pins, form):
        begin, spans, signs = 0, [], []
        for part in form:
            if part[0] == "sign":
                signs.append(begin)
                begin += 1
            else:
                _, i, many = part
                spans.append((begin, many))
                self.assertIn(i, touched_at(text, pins, text[begin:begin + many]), (text, pins, part))
                begin += many
        self.assertEqual(tuple(signs), pins, text)
        self.assertEqual(spans, spans_from(text, pins), (text, pins))

    def check_followed(self, form, pins, place):
        many = followed(form, place)
        self.assertEqual(many, sign_behind(form, place)[1])
        far = min(abs(place - pin) for pin in pins)
        if far == 0:
            self.assertEqual(many, 0)
        else:
            j = 0
            while 2 ** (j + 1) <= far:
                j += 1
            self.assertTrue(1 <= many <= j + 1, (form, pins, place))

    def check_refused(self, text, pins, piece):
        with self.assertRaises(Missed) as caught:
            copies_from(text, pins)
        self.assertIs(type(caught.exception), Missed)
        self.assertEqual(caught.exception.piece, piece, (text, pins))

    def lengths(self, form):
        """The lengths of the parts, 0 for a sign."""
        return [0 if part[0] == "sign" else part[2] for part in form]

    def test_no_signs(self):
        self.assertEqual(copies_from("", ()), ())

    def test_all_places_pinned(self):
        for text in all_texts("abc", 4) + LONG:
            form = copies_from(text, tuple(range(len(text))))
            self.assertEqual(form, tuple(("sign", c) for c in text))

    def test_written_out(self):
        self.assertEqual(copies_from("a", (0,)), (("sign", "a"),))
        self.assertEqual(copies_from("aa", (0,)), (("sign", "a"), ("copy", 0, 1)))
        self.assertEqual(copies_from("aa", (1,)), (("copy", 1, 1), ("sign", "a")))
        self.assertEqual(copies_from("abab", (1, 2)),
                         (("copy", 2, 1), ("sign", "b"), ("sign", "a"), ("copy", 1, 1)))

    def test_between_two_pins(self):
        wanted = {0: [], 1: [1], 2: [1, 1], 3: [1, 1, 1], 4: [1, 1, 1, 1], 5: [1, 2, 1, 1], 6: [1, 2, 2, 1],
                  7: [1, 2, 1, 2, 1], 8: [1, 2, 1, 1, 2, 1], 9: [1, 2, 2, 1, 2, 1], 13: [1, 2, 4, 3, 2, 1],
                  14: [1, 2, 4, 4, 2, 1], 15: [1, 2, 4, 1, 4, 2, 1], 16: [1, 2, 4, 1, 1, 4, 2, 1]}
        for many, lengths in wanted.items():
            form = self.check("a" * (many + 2), (0, many + 1))
            self.assertEqual(self.lengths(form), [0] + lengths + [0], many)

    def test_ahead_of_the_first_and_behind_the_last(self):
        wanted = {0: [], 1: [1], 2: [1, 1], 3: [1, 2], 4: [1, 2, 1], 5: [1, 2, 2], 6: [1, 2, 3], 7: [1, 2, 4],
                  8: [1, 2, 4, 1], 15: [1, 2, 4, 8], 16: [1, 2, 4, 8, 1], 299: [1, 2, 4, 8, 16, 32, 64, 128, 44]}
        for many, lengths in wanted.items():
            form = self.check("a" * (many + 1), (0,))
            self.assertEqual(self.lengths(form), [0] + lengths, many)
            form = self.check("a" * (many + 1), (many,))
            self.assertEqual(self.lengths(form), lengths[::-1] + [0], many)
            both = self.check("a" * min(2 * many + 1, 300), (min(many, 150),))
            self.assertEqual(self.lengths(both).count(0), 1)

    def test_one_pin_in_one_letter_again_and_again(self):
        for many in (1, 2, 3, 7, 8, 9, 63, 64, 65, 299, 300):
            for pin in sorted({0, 1, many // 3, many // 2, many - 2, many - 1}):
                if 0 <= pin < many:
                    self.check("z" * many, (pin,))

    def test_small_texts_and_all_pins(self):
        holding = 0
        for text in all_texts("ab", 6) + all_texts("abc", 4) + ["a" * 9, "aaaabaaaa", "abababab"]:
            for pins in all_pins(text):
                missed = plain.first_missed(text, pins)
                if missed is None:
                    self.check(text, pins)
                    holding += 1
                else:
                    self.check_refused(text, pins, missed)
        self.assertGreater(holding, 500)

    def test_300_signs(self):
        for text in LONG:
            self.check(text, pins_of(cut(text)))
            self.check(text, pins_of_turns(text))
            self.check(text, tuple(sorted(set(pins_of(cut(text))) | set(range(0, 300, 7)))))

    def test_no_pins(self):
        self.check_refused("a", (), "a")
        self.check_refused("cab", (), "a")
        self.check_refused("b" * 300, (), "b")

    def test_pins_that_miss(self):
        self.check_refused("abxba", (0, 1, 2), "ba")
        self.check_refused("cba", (2,), "b")
        self.check_refused("a" * 149 + "b" + "a" * 150, (0, 149), "a" * 150)
        self.check_refused((LETTERS * 12)[:300], tuple(range(25)), "z")

    def test_by_name(self):
        self.assertEqual(copies_from(pins=(1,), text="aa"), (("copy", 1, 1), ("sign", "a")))


if __name__ == "__main__":
    unittest.main()
