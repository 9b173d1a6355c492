import unittest

import plain
from plain import all_texts, fibonacci, scrambled
from touchpin.copies import cut, is_copies, pins_of, text_of
from touchpin.counted import bound, shows_bound
from touchpin.errors import TooMany
from touchpin.growing import Growing
from touchpin.pins import hold
from touchpin.pieces import counts

LETTERS = "abcdefghijklmnopqrstuvwxyz"
LONG = ["a" * 300, "ab" * 150, (LETTERS * 12)[:300], fibonacci(300), scrambled("ab", 300), scrambled(LETTERS, 300),
        "a" * 299 + "b", "b" + "a" * 299, "a" * 150 + "b" * 150]


def grown(text):
    growing = Growing()
    for letter in text:
        growing.put(letter)
    return growing


def told_by(growing):
    return growing.text(), growing.many(), growing.parts(), growing.pins(), growing.bound()


class Grows(unittest.TestCase):
    def check(self, growing, text):
        self.assertEqual(growing.text(), text)
        self.assertEqual(growing.many(), len(plain.pieces(text)), text)
        self.assertEqual(growing.parts(), plain.cut(text))
        self.assertIs(is_copies(growing.parts()), True)
        self.assertEqual(growing.pins(), pins_of(growing.parts()))
        self.assertIs(plain.first_missed(text, growing.pins()), None, text)
        self.check_bound(growing, text)

    def check_bound(self, growing, text):
        told = growing.bound()
        self.assertIs(type(told), tuple)
        number, length = told
        best, lengths = plain.bounds(text)
        self.assertEqual(number, best, text)
        self.assertIn(length, lengths, text)

    def test_no_signs_at_first(self):
        growing = Growing()
        self.assertEqual(told_by(growing), ("", 0, (), (), (0, None)))
        self.check(growing, "")

    def test_written_out(self):
        growing = Growing()
        self.assertEqual([growing.put(letter) for letter in "banana"], [1, 2, 3, 3, 3, 3])
        self.assertEqual(growing.text(), "banana")
        self.assertEqual(growing.many(), 15)
        self.assertEqual(growing.parts(), (("sign", "b"), ("sign", "a"), ("sign", "n"), ("copy", 1, 3)))
        self.assertEqual(growing.pins(), (0, 1, 2, 5))
        self.assertEqual(growing.bound()[0], 3)
        self.assertEqual(growing.put("x"), 7)
        self.assertEqual(growing.many(), 22)

    def test_small_texts_sign_by_sign(self):
        for text in [text for text in all_texts("ab", 7) if len(text) == 7] + all_texts("abc", 4)[-81:] + ["banana"]:
            growing = Growing()
            for many in range(1, len(text) + 1):
                told = growing.put(text[many - 1])
                self.assertEqual(told, plain.new_endings(text[:many]), text[:many])
                self.assertIs(type(told), int)
                self.check(growing, text[:many])

    def test_300_letters_one_by_one(self):
        for text in LONG:
            growing = Growing()
            total = 0
            for many in range(1, 301):
                told = growing.put(text[many - 1])
                self.assertEqual(told, plain.new_endings(text[:many]))
                total += told
                self.assertEqual(growing.many(), total)
                self.assertEqual(growing.text(), text[:many])
                self.assertEqual(growing.parts(), cut(text[:many]))
            self.assertEqual(total, sum(counts(text)))

    def test_300_letters_pins_and_bound_now_and_then(self):
        for text in LONG:
            growing = Growing()
            for many in range(1, 301):
                growing.put(text[many - 1])
                if many % 50 == 0 or many in (1, 2, 3, 7, 299):
                    self.check_long(growing, text[:many])

    def check_long(self, growing, text):
        self.assertEqual(text_of(growing.parts()), text)
        self.assertEqual(growing.pins(), pins_of(cut(text)))
        self.assertIs(hold(text, growing.pins()), True)
        number, length = growing.bound()
        self.assertEqual(number, bound(text)[0])
        self.assertIs(shows_bound(text, number, length), True)
        self.assertIs(shows_bound(text, number + 1, length), False)
        self.assertLessEqual(number, len(growing.pins()))

    def test_one_letter_again_and_again(self):
        growing = Growing()
        self.assertEqual([growing.put("z") for _ in range(300)], [1] * 300)
        self.assertEqual(growing.many(), 300)
        self.assertEqual(growing.parts(), (("sign", "z"), ("copy", 0, 299)))
        self.assertEqual(growing.pins(), (0, 299))
        self.assertEqual(growing.bound(), (1, 1))

    def test_the_301st_is_refused(self):
        for text in LONG:
            growing = grown(text)
            before = told_by(growing)
            for letter in "abz":
                with self.assertRaises(TooMany) as caught:
                    growing.put(letter)
                self.assertIs(type(caught.exception), TooMany)
                self.assertEqual(told_by(growing), before)

    def test_two_by_turns(self):
        first, second = Growing(), Growing()
        for many in range(40):
            self.assertEqual(first.put("ab"[many % 2]), min(many + 1, 2))
            self.assertEqual(second.put("a"), 1)
        self.assertEqual(first.text(), "ab" * 20)
        self.assertEqual(second.text(), "a" * 40)
        self.assertEqual(told_by(first), told_by(grown("ab" * 20)))
        self.assertEqual(told_by(second), told_by(grown("a" * 40)))
        third = Growing()
        self.assertEqual(told_by(third), ("", 0, (), (), (0, None)))

    def test_told_things_stay(self):
        growing = grown("abab")
        before = told_by(growing)
        again = told_by(growing)
        growing.put("c")
        growing.put("c")
        self.assertEqual(before, again)
        self.assertEqual(before, ("abab", 7, (("sign", "a"), ("sign", "b"), ("copy", 0, 2)), (0, 1, 3), (2, 1)))
        self.assertEqual(growing.text(), "ababcc")

    def test_asking_changes_nothing(self):
        asked, other = Growing(), Growing()
        for letter in scrambled("abc", 60):
            told_by(asked)
            self.assertEqual(asked.put(letter), other.put(letter))
            told_by(asked)
        self.assertEqual(told_by(asked), told_by(other))

    def test_by_name(self):
        growing = Growing()
        self.assertEqual(growing.put(c="q"), 1)
        self.assertEqual(growing.text(), "q")


if __name__ == "__main__":
    unittest.main()
