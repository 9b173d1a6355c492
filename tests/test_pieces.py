import unittest

from plain import all_texts, fibonacci, nested, pieces, scrambled, standings
from touchpin.pieces import counts, is_text, pieces_of, stands_at

LONG = [
    "a" * 300,
    "ab" * 150,
    "a" * 149 + "b" + "a" * 150,
    fibonacci(300),
    scrambled("abcdefghijklmnopqrstuvwxyz", 300),
]


class IsText(unittest.TestCase):
    def test_texts(self):
        for text in ["", "a", "z", "abz", "a" * 299, "z" * 300, "abcdefghijklmnopqrstuvwxyz"]:
            self.assertIs(is_text(text), True, text)

    def test_too_long(self):
        for many in (301, 302, 1000):
            self.assertIs(is_text("a" * many), False, many)

    def test_other_signs(self):
        for sign in "AZ09 .\n\t-`{@[~\0\u00e4\u00df\u03b1\uff41":
            for text in (sign, sign + "a", "a" + sign, "ab" + sign + "cd", "a" * 299 + sign):
                self.assertIs(is_text(text), False, repr(text))

    def test_anything_else(self):
        things = [0, 1, -1, 10 ** 59, True, False, None, [], ["a"], ["a", "b"], (), ("a",), ("a", "b"), [[]]]
        for kind in (list, tuple):
            things += [nested(kind, "a", 40), nested(kind, kind(), 39)]
        for thing in things:
            self.assertIs(is_text(thing), False, thing)


class StandsAt(unittest.TestCase):
    def test_overlapping(self):
        self.assertEqual(stands_at("aaaa", "aa"), [0, 1, 2])
        self.assertEqual(stands_at("abababa", "aba"), [0, 2, 4])

    def test_ends(self):
        self.assertEqual(stands_at("abcab", "ab"), [0, 3])
        self.assertEqual(stands_at("abc", "c"), [2])
        self.assertEqual(stands_at("abc", "abc"), [0])

    def test_nowhere(self):
        self.assertEqual(stands_at("abc", "d"), [])
        self.assertEqual(stands_at("abc", "ac"), [])
        self.assertEqual(stands_at("abc", "cb"), [])

    def test_longer_than_the_text(self):
        self.assertEqual(stands_at("abc", "abcd"), [])
        self.assertEqual(stands_at("abc", "abc" * 1000), [])

    def test_no_signs(self):
        self.assertEqual(stands_at("", "a"), [])
        self.assertEqual(stands_at("", "a" * 301), [])

    def test_as_the_document_says(self):
        asked = all_texts("abc", 4)[1:]
        for text in all_texts("ab", 6):
            for piece in asked:
                self.assertEqual(stands_at(text, piece), standings(text, piece), (text, piece))

    def test_300_signs(self):
        self.assertEqual(stands_at("a" * 300, "a" * 150), list(range(151)))
        for text in LONG:
            self.assertEqual(stands_at(text, text), [0])
            for piece in (text[:1], text[100:103], text[200:], text[-1:], text + "a"):
                self.assertEqual(stands_at(text, piece), standings(text, piece))

    def test_the_list_is_the_askers(self):
        told = stands_at("abab", "ab")
        told.append(9)
        told[0] = 7
        self.assertEqual(stands_at("abab", "ab"), [0, 2])
        self.assertIsNot(stands_at("abab", "ab"), stands_at("abab", "ab"))
        self.assertIs(type(told), list)

    def test_by_name(self):
        self.assertEqual(stands_at(piece="ba", text="abaa"), [1])


class PiecesOf(unittest.TestCase):
    def test_sorted_each_once(self):
        self.assertEqual(pieces_of("banana", 1), ["a", "b", "n"])
        self.assertEqual(pieces_of("banana", 2), ["an", "ba", "na"])
        self.assertEqual(pieces_of("banana", 3), ["ana", "ban", "nan"])
        self.assertEqual(pieces_of("banana", 6), ["banana"])

    def test_beyond_the_text(self):
        self.assertEqual(pieces_of("banana", 7), [])
        self.assertEqual(pieces_of("banana", 301), [])
        self.assertEqual(pieces_of("banana", 10 ** 59), [])
        self.assertEqual(pieces_of("", 1), [])

    def test_no_piece_is_shorter_than_one_sign(self):
        self.assertEqual(pieces_of("ab", 0), [])
        self.assertEqual(pieces_of("ab", -1), [])

    def test_as_the_document_says(self):
        for text in all_texts("abc", 5):
            for length in range(1, len(text) + 3):
                wanted = [piece for piece in pieces(text) if len(piece) == length]
                self.assertEqual(pieces_of(text, length), wanted, (text, length))

    def test_300_signs(self):
        self.assertEqual(pieces_of("a" * 300, 300), ["a" * 300])
        self.assertEqual(pieces_of("a" * 300, 301), [])
        for text in LONG:
            for length in (1, 2, 7, 150, 299):
                wanted = sorted({text[i:i + length] for i in range(301 - length)})
                self.assertEqual(pieces_of(text, length), wanted)

    def test_the_list_is_the_askers(self):
        told = pieces_of("abc", 2)
        told.clear()
        self.assertEqual(pieces_of("abc", 2), ["ab", "bc"])
        self.assertIs(type(told), list)

    def test_by_name(self):
        self.assertEqual(pieces_of(length=2, text="cba"), ["ba", "cb"])


class Counts(unittest.TestCase):
    def test_no_signs(self):
        self.assertEqual(counts(""), [])

    def test_ordinary(self):
        self.assertEqual(counts("a"), [1])
        self.assertEqual(counts("aaa"), [1, 1, 1])
        self.assertEqual(counts("banana"), [3, 3, 3, 3, 2, 1])

    def test_as_the_document_says(self):
        for text in all_texts("abc", 5):
            found = pieces(text)
            wanted = [sum(len(piece) == length for piece in found) for length in range(1, len(text) + 1)]
            self.assertEqual(counts(text), wanted, text)

    def test_300_signs(self):
        self.assertEqual(counts("a" * 300), [1] * 300)
        self.assertEqual(counts("ab" * 150), [2] * 299 + [1])
        self.assertEqual(counts(fibonacci(300))[:50], list(range(2, 52)))
        for text in LONG:
            told = counts(text)
            self.assertEqual(len(told), 300)
            self.assertEqual(sum(told), len(pieces(text)))

    def test_the_list_is_the_askers(self):
        told = counts("ab")
        told.append(5)
        self.assertEqual(counts("ab"), [2, 1])
        self.assertIs(type(told), list)

    def test_by_name(self):
        self.assertEqual(counts(text="aab"), [2, 2, 1])
        self.assertIs(is_text(thing="aab"), True)


if __name__ == "__main__":
    unittest.main()
