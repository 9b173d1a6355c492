import copy
import unittest

import plain
from plain import all_pins, all_texts, fibonacci, nested, scrambled
from touchpin.pins import first_missed, hold, is_pins, joined, turned_about

GREAT = 10 ** 59


def holding(letters, most):
    """All pairs of a text and pins that hold it."""
    return [(text, pins) for text in all_texts(letters, most) for pins in all_pins(text)
            if plain.first_missed(text, pins) is None]


class IsPins(unittest.TestCase):
    def test_pins(self):
        for text in all_texts("ab", 5):
            for pins in all_pins(text):
                self.assertIs(is_pins(text, pins), True, (text, pins))
        self.assertIs(is_pins("a" * 300, tuple(range(300))), True)
        self.assertIs(is_pins("a" * 300, (299,)), True)

    def test_no_pins(self):
        self.assertIs(is_pins("", ()), True)
        self.assertIs(is_pins("abc", ()), True)

    def test_out_of_the_text(self):
        for thing in [(3,), (0, 3), (-1,), (-1, 0), (GREAT,), (0, GREAT), (-GREAT,), (-GREAT, 1), (4, 5)]:
            self.assertIs(is_pins("abc", thing), False, thing)
        self.assertIs(is_pins("", (0,)), False)
        self.assertIs(is_pins("", (-1,)), False)
        self.assertIs(is_pins("a" * 300, (300,)), False)

    def test_not_rising(self):
        for thing in [(0, 0), (1, 1, 2), (0, 2, 2), (1, 0), (0, 2, 1), (2, 1, 0)]:
            self.assertIs(is_pins("abc", thing), False, thing)

    def test_truths_are_no_places(self):
        for thing in [(True,), (False,), (0, True), (False, 1), (0, True, 2)]:
            self.assertIs(is_pins("abc", thing), False, thing)

    def test_other_things_among_the_places(self):
        for thing in [None, "0", "", "a", (), (1,), [], [1], nested(tuple, 1, 38), nested(list, 1, 38)]:
            for pins in [(thing,), (0, thing), (thing, 2), (0, thing, 2)]:
                self.assertIs(is_pins("abc", pins), False, pins)

    def test_anything_else(self):
        things = [[], [0], [0, 1, 2], 0, 1, GREAT, -1, True, False, None, "", "abc", "012", [()], ((),), ((0, 1),)]
        things += [nested(tuple, 0, 40), nested(list, 0, 40)]
        for thing in things:
            self.assertIs(is_pins("abc", thing), False, thing)

    def test_what_is_handed_in_stays(self):
        for thing in [[0, 1], [2, 1], ([0], 1), (0, [1, [2]]), [], (1, 0)]:
            before = copy.deepcopy(thing)
            is_pins("abc", thing)
            self.assertEqual(thing, before)

    def test_by_name(self):
        self.assertIs(is_pins(thing=(0, 2), text="abc"), True)
        self.assertIs(is_pins(thing=(0, 3), text="abc"), False)


class FirstMissed(unittest.TestCase):
    def test_a_shortest_one(self):
        self.assertEqual(first_missed("abxba", (0, 1, 2)), "ba")
        self.assertEqual(first_missed("abcab", (2, 3, 4)), None)
        self.assertEqual(first_missed("zab", (0,)), "a")

    def test_of_these_the_least(self):
        self.assertEqual(first_missed("cab", ()), "a")
        self.assertEqual(first_missed("cba", (2,)), "b")
        self.assertEqual(first_missed("badcabacd", (2, 3, 4, 5)), "ac")

    def test_long_missed_piece_only(self):
        text = "a" * 149 + "b" + "a" * 150
        self.assertEqual(first_missed(text, (149,)), "a")
        self.assertEqual(first_missed(text, (0, 149)), "a" * 150)
        self.assertIs(first_missed(text, (149, 150)), None)

    def test_no_signs(self):
        self.assertIs(first_missed("", ()), None)
        self.assertIs(hold("", ()), True)

    def test_no_pins(self):
        for text in all_texts("abc", 4)[1:]:
            self.assertEqual(first_missed(text, ()), min(text), text)
            self.assertIs(hold(text, ()), False, text)

    def test_all_pins(self):
        for text in all_texts("abc", 4) + [fibonacci(300)]:
            pins = tuple(range(len(text)))
            self.assertIs(first_missed(text, pins), None, text)
            self.assertIs(hold(text, pins), True, text)

    def test_as_the_document_says(self):
        for text in all_texts("ab", 6) + all_texts("abc", 4) + ["bacabac", "ccbcbab", "abcabca"]:
            for pins in all_pins(text):
                wanted = plain.first_missed(text, pins)
                self.assertEqual(first_missed(text, pins), wanted, (text, pins))
                self.assertIs(hold(text, pins), wanted is None, (text, pins))

    def test_300_equal_signs(self):
        for place in (0, 1, 150, 298, 299):
            self.assertIs(hold("a" * 300, (place,)), True, place)
        self.assertEqual(first_missed("a" * 300, ()), "a")

    def test_300_signs_that_come_again(self):
        text = ("abcdefghijklmnopqrstuvwxyz" * 12)[:300]
        pins = tuple(range(26))
        self.assertIs(hold(text, pins), True)
        self.assertEqual(first_missed(text, pins[1:]), "a")
        self.assertEqual(first_missed(text, pins[:-1]), "z")
        self.assertIs(hold(text, pins[:3] + pins[4:] + (29,)), True)

    def test_300_signs_pinned_here_and_there(self):
        for text in [fibonacci(300), scrambled("ab", 300), scrambled("abcdefgh", 300)]:
            for step in (1, 2, 3, 50):
                pins = tuple(range(0, 300, step))
                told = first_missed(text, pins)
                self.assertEqual(told, self.missed_by_sets(text, pins))
                self.assertIs(hold(text, pins), told is None)

    def missed_by_sets(self, text, pins):
        for length in range(1, len(text) + 1):
            standing = [(i, text[i:i + length]) for i in range(len(text) - length + 1)]
            touched = {piece for i, piece in standing if any(i <= pin < i + length for pin in pins)}
            missed = {piece for _, piece in standing} - touched
            if missed:
                return min(missed)
        return None

    def test_by_name(self):
        self.assertEqual(first_missed(pins=(0,), text="ab"), "b")
        self.assertIs(hold(pins=(0,), text="ab"), False)
        self.assertIs(hold(pins=(0, 1), text="ab"), True)


class MorePins(unittest.TestCase):
    def test_pins_that_hold_still_do(self):
        for text, pins in holding("ab", 5) + holding("abc", 4):
            for more in all_pins(text):
                both = tuple(sorted(set(pins) | set(more)))
                self.assertIs(hold(text, both), True, (text, both))


class Joined(unittest.TestCase):
    def test_both_with_signs(self):
        self.assertEqual(joined("abc", (0,), "de", (1,)), (0, 2, 4))
        self.assertEqual(joined("abc", (), "de", ()), (2,))
        self.assertEqual(joined("a", (), "b", (0,)), (0, 1))

    def test_the_last_place_is_told_once(self):
        self.assertEqual(joined("abc", (1, 2), "de", (0, 1)), (1, 2, 3, 4))

    def test_either_without_signs(self):
        self.assertEqual(joined("", (), "de", (1,)), (1,))
        self.assertEqual(joined("", (), "de", ()), ())
        self.assertEqual(joined("abc", (0,), "", ()), (0,))
        self.assertEqual(joined("abc", (), "", ()), ())
        self.assertEqual(joined("", (), "", ()), ())

    def test_more_than_300_signs(self):
        told = joined("a" * 300, (5,), "ab" * 150, (0, 1, 299))
        self.assertEqual(told, (5, 299, 300, 301, 599))
        self.assertIs(hold("a" * 300 + "ab" * 150, told), True)
        self.assertEqual(joined("a" * 200, (0,), "b" * 101, (100,)), (0, 199, 300))

    def test_they_hold_where_both_do(self):
        pairs = holding("ab", 3) + [("abc", (0, 1, 2)), ("cac", (0, 1)), ("cac", (1, 2))]
        for text, pins in pairs:
            for other, other_pins in pairs:
                told = joined(text, pins, other, other_pins)
                self.assertIs(is_pins(text + other, told), True)
                self.assertIs(plain.first_missed(text + other, told), None, (text, pins, other, other_pins))
                self.assertIs(hold(text + other, told), True)

    def test_as_the_document_says(self):
        for text in all_texts("a", 3):
            for pins in all_pins(text):
                for other in all_texts("b", 3):
                    for other_pins in all_pins(other):
                        border = {len(text) - 1} if text and other else set()
                        wanted = set(pins) | border | {len(text) + place for place in other_pins}
                        self.assertEqual(joined(text, pins, other, other_pins), tuple(sorted(wanted)))

    def test_by_name(self):
        self.assertEqual(joined(other_pins=(1,), other="de", pins=(0,), text="abc"), (0, 2, 4))


class TurnedAbout(unittest.TestCase):
    def test_ordinary(self):
        self.assertEqual(turned_about("abcd", (0, 1)), (2, 3))
        self.assertEqual(turned_about("abcd", (1,)), (2,))
        self.assertEqual(turned_about("abcd", (0, 1, 2, 3)), (0, 1, 2, 3))
        self.assertEqual(turned_about("a" * 300, (0, 100)), (199, 299))

    def test_none(self):
        self.assertEqual(turned_about("", ()), ())
        self.assertEqual(turned_about("abc", ()), ())

    def test_turned_about_again(self):
        for text in all_texts("ab", 5):
            for pins in all_pins(text):
                told = turned_about(text, pins)
                self.assertIs(is_pins(text[::-1], told), True)
                self.assertEqual(turned_about(text[::-1], told), pins)

    def test_they_hold_where_the_ones_do(self):
        for text in all_texts("ab", 6) + all_texts("abc", 4):
            for pins in all_pins(text):
                told = turned_about(text, pins)
                self.assertIs(hold(text[::-1], told), hold(text, pins), (text, pins))

    def test_by_name(self):
        self.assertEqual(turned_about(pins=(0,), text="abc"), (2,))


if __name__ == "__main__":
    unittest.main()
