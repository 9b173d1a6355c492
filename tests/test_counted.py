import unittest

import plain
from plain import all_texts, fibonacci, scrambled
from touchpin.counted import bound, shows_bound

GREAT = 10 ** 59
LETTERS = "abcdefghijklmnopqrstuvwxyz"
LONG = ["a" * 300, "ab" * 150, (LETTERS * 12)[:300], fibonacci(300), scrambled("ab", 300), scrambled(LETTERS, 300),
        "a" * 299 + "b", "a" * 150 + "b" * 150]


def unlike(text, length):
    """How many unlike pieces of a length there are."""
    return len({text[i:i + length] for i in range(len(text) - length + 1)})


def needed(text, length):
    """The least whole number that times the length is no less than the number of unlike pieces."""
    number = 0
    while number * length < unlike(text, length):
        number += 1
    return number


class Bound(unittest.TestCase):
    def check(self, text):
        told = bound(text)
        self.assertIs(type(told), tuple)
        number, length = told
        self.assertIs(type(number), int)
        self.assertIs(type(length), int)
        self.assertTrue(1 <= length <= len(text), text)
        self.assertEqual(number, needed(text, length), text)
        self.assertEqual(number, max(needed(text, each) for each in range(1, len(text) + 1)), text)
        self.assertIs(shows_bound(text, number, length), True)

    def test_no_signs(self):
        self.assertEqual(bound(""), (0, None))

    def test_ordinary(self):
        self.assertEqual(bound("a"), (1, 1))
        self.assertEqual(bound("ab"), (2, 1))
        self.assertEqual(bound("banana"), (3, 1))
        self.assertEqual(bound("aaa")[0], 1)
        self.assertEqual(bound("aababbbaaa")[0], 3)
        self.assertEqual(bound("aababbbaaa")[1], 3)

    def test_small_texts(self):
        for text in all_texts("ab", 8)[1:] + all_texts("abc", 5)[1:]:
            self.check(text)

    def test_no_fewer_pins_hold(self):
        for text in all_texts("ab", 7) + all_texts("abc", 5):
            self.assertLessEqual(bound(text)[0], plain.least_number(text), text)

    def test_300_signs(self):
        for text in LONG:
            self.check(text)
        self.assertEqual(bound("a" * 300)[0], 1)
        self.assertEqual(bound("ab" * 150), (2, 1))
        self.assertEqual(bound((LETTERS * 12)[:300]), (26, 1))
        self.assertGreater(bound(scrambled(LETTERS, 300))[0], 26)

    def test_by_name(self):
        self.assertEqual(bound(text="abc"), (3, 1))


class ShowsBound(unittest.TestCase):
    def test_written_out(self):
        self.assertIs(shows_bound("banana", 3, 1), True)
        self.assertIs(shows_bound("banana", 4, 1), False)
        self.assertIs(shows_bound("banana", 2, 2), True)
        self.assertIs(shows_bound("banana", 3, 2), False)
        self.assertIs(shows_bound("banana", 1, 6), True)
        self.assertIs(shows_bound("banana", 2, 6), False)

    def test_just_as_many_pieces_are_not_more(self):
        self.assertIs(shows_bound("abcd", 4, 1), True)
        self.assertIs(shows_bound("abcd", 5, 1), False)
        self.assertIs(shows_bound("aababbb", 2, 2), True)
        self.assertIs(shows_bound("aabba", 2, 2), True)
        self.assertIs(shows_bound("aabba", 3, 2), False)

    def test_small_texts(self):
        for text in all_texts("ab", 6) + all_texts("abc", 4):
            for length in range(-3, len(text) + 4):
                for number in range(-3, len(text) + 4):
                    wanted = 1 <= length <= len(text) and unlike(text, length) > length * (number - 1)
                    self.assertIs(shows_bound(text, number, length), wanted, (text, number, length))

    def test_numbers_that_are_no_bound_at_all(self):
        for text in ["a", "ab", "banana"] + LONG:
            for number in (1, 0, -1, -300, -GREAT):
                for length in (1, len(text)):
                    self.assertIs(shows_bound(text, number, length), True)
            self.assertIs(shows_bound(text, GREAT, 1), False)
            self.assertIs(shows_bound(text, GREAT, len(text)), False)

    def test_lengths_that_there_are_not(self):
        for text in ["", "a", "ab", "banana"] + LONG:
            for length in (0, -1, -len(text) - 1, -GREAT, len(text) + 1, len(text) + 2, 301, GREAT):
                for number in (1, 0, -1, 2, GREAT, -GREAT):
                    self.assertIs(shows_bound(text, number, length), False, (number, length))

    def test_300_signs(self):
        for text in LONG:
            for length in (1, 2, 3, 7, 150, 299, 300):
                number = needed(text, length)
                self.assertIs(shows_bound(text, number, length), True)
                self.assertIs(shows_bound(text, number + 1, length), False)

    def test_by_name(self):
        self.assertIs(shows_bound(length=1, number=3, text="abc"), True)
        self.assertIs(shows_bound(number=4, length=1, text="abc"), False)


if __name__ == "__main__":
    unittest.main()
