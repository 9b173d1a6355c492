import unittest
from itertools import permutations, product

import plain
from plain import all_texts, fibonacci, scrambled
from touchpin.errors import NoTurned
from touchpin.pins import hold, is_pins
from touchpin.turns import pins_of_turns, runs, turned, turned_back

LETTERS = "abcdefghijklmnopqrstuvwxyz"
SMALL = all_texts("ab", 8) + all_texts("abc", 5) + all_texts("az", 4)
LONG = ["a" * 300, "ab" * 150, (LETTERS * 12)[:300], (LETTERS[::-1] * 12)[:300], fibonacci(300), scrambled("ab", 300),
        scrambled(LETTERS, 300), "a" * 299 + "b", "b" + "a" * 299, "a" * 150 + "b" * 150, LETTERS, LETTERS[::-1]]


class Turned(unittest.TestCase):
    def test_written_out(self):
        self.assertEqual(turned(""), ".")
        self.assertEqual(turned("a"), "a.")
        self.assertEqual(turned("ab"), "b.a")
        self.assertEqual(turned("ba"), "ab.")
        self.assertEqual(turned("banana"), "annb.aa")
        self.assertEqual(turned("abracadabra"), "ard.rcaaaabb")

    def test_one_letter_again_and_again(self):
        for many in range(301):
            self.assertEqual(turned("z" * many), "z" * many + ".")

    def test_all_letters(self):
        self.assertEqual(turned(LETTERS), "z." + LETTERS[:-1])
        self.assertEqual(turned(LETTERS[::-1]), LETTERS + ".")

    def test_as_the_document_says(self):
        for text in SMALL + LONG:
            self.assertEqual(turned(text), plain.turned(text), text)

    def test_by_name(self):
        self.assertEqual(turned(text="ab"), "b.a")


class TurnedBack(unittest.TestCase):
    def check_refused(self, last):
        with self.assertRaises(NoTurned) as caught:
            turned_back(last)
        self.assertIs(type(caught.exception), NoTurned)

    def test_the_text_again(self):
        for text in SMALL + LONG:
            self.assertEqual(turned_back(turned(text)), text)
        for many in range(301):
            self.assertEqual(turned_back("z" * many + "."), "z" * many)

    def test_no_point(self):
        for last in ["", "a", "ab", "ba", "annbaa", "a" * 300, "a" * 301]:
            self.check_refused(last)

    def test_more_than_one_point(self):
        for last in ["..", "...", "a..", ".a.", "..a", "annb.aa.", "annb..aa", "." * 301, "a." * 150, "a" * 299 + ".."]:
            self.check_refused(last)

    def test_more_than_one_round(self):
        for last in [".a", ".aa", ".ab", "a.a", "ab.ab", ".banana", "." + "a" * 300, "a" * 150 + "." + "a" * 150]:
            self.check_refused(last)

    def test_signs_in_another_order(self):
        for text in ["banana", "abca", "aabb", "abcde"]:
            known = {plain.turned("".join(signs)): "".join(signs) for signs in permutations(text)}
            for signs in set(permutations(text + ".")):
                last = "".join(signs)
                if last in known:
                    self.assertEqual(turned_back(last), known[last])
                else:
                    self.check_refused(last)

    def test_each_text_of_letters_and_points(self):
        known = {plain.turned(text): text for text in all_texts("ab", 6)}
        refused = 0
        for many in range(8):
            for signs in product("ab.", repeat=many):
                last = "".join(signs)
                if last in known:
                    self.assertEqual(turned_back(last), known[last])
                else:
                    self.check_refused(last)
                    refused += 1
        self.assertEqual(refused, sum(3 ** many for many in range(8)) - len(known))

    def one_round(self, last):
        """Whether going from sign to sign by their places among the sorted ones comes to all of them."""
        order = sorted(range(len(last)), key=lambda at: (last[at], at))
        at, many = order[0], 1
        while at != 0:
            at, many = order[at], many + 1
        return many == len(last)

    def test_301_signs_in_another_order(self):
        told = refused = 0
        for text in LONG[1:10]:
            last = turned(text)
            for at in range(300):
                other = last[:at] + last[at + 1] + last[at] + last[at + 2:]
                if self.one_round(other):
                    self.assertEqual(plain.turned(turned_back(other)), other)
                    told += 1
                else:
                    self.check_refused(other)
                    refused += 1
        self.assertGreater(told, 9)
        self.assertGreater(refused, 9)

    def test_by_name(self):
        self.assertEqual(turned_back(last="annb.aa"), "banana")


class Runs(unittest.TestCase):
    def test_written_out(self):
        self.assertEqual(runs(""), 0)
        self.assertEqual(runs("."), 1)
        self.assertEqual(runs("a."), 2)
        self.assertEqual(runs("annb.aa"), 5)
        self.assertEqual(runs("aabbaa"), 3)
        self.assertEqual(runs("..aa"), 2)

    def test_of_turned_texts(self):
        self.assertEqual(runs(turned("")), 1)
        for many in range(1, 301):
            self.assertEqual(runs(turned("q" * many)), 2)
        for text in SMALL + LONG:
            last = turned(text)
            self.assertEqual(runs(last), len(plain.row_runs(last)), text)

    def test_by_name(self):
        self.assertEqual(runs(last="aab"), 2)


class PinsOfTurns(unittest.TestCase):
    def test_written_out(self):
        self.assertEqual(pins_of_turns(""), ())
        self.assertEqual(pins_of_turns("a"), (0,))
        self.assertEqual(pins_of_turns("ab"), (0, 1))
        # The turns of banana begin at 6, 5, 3, 1, 0, 4, 2: the runs a, nn, b, ., aa lie at 5; 4, 2; 0; 6; 3, 1.
        self.assertEqual(pins_of_turns("banana"), (0, 1, 2, 3, 4, 5))

    def test_one_letter_again_and_again(self):
        # The turns begin at the end and go backwards: the one run's first sign is the last one of the text.
        for many in range(2, 301):
            self.assertEqual(pins_of_turns("z" * many), (0, many - 1))

    def test_amid_a_run_is_no_pin(self):
        # The turns of aaab begin at 4, 0, 1, 2, 3: the runs b, ., aaa lie at 3; 4; 0, 1, 2.
        self.assertEqual(pins_of_turns("aaab"), (0, 2, 3))

    def test_as_the_document_says(self):
        for text in SMALL + LONG:
            pins = pins_of_turns(text)
            self.assertEqual(pins, plain.pins_of_turns(text), text)
            self.assertIs(is_pins(text, pins), True, text)

    def test_they_hold(self):
        for text in SMALL + LONG:
            pins = pins_of_turns(text)
            self.assertIs(hold(text, pins), True, text)
            self.assertLessEqual(len(pins), 2 * runs(turned(text)), text)

    def test_by_name(self):
        self.assertEqual(pins_of_turns(text="ab"), (0, 1))


if __name__ == "__main__":
    unittest.main()
