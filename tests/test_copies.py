import copy
import unittest

import plain
from plain import all_forms, all_texts, fibonacci, nested, scrambled, sign_behind
from touchpin.copies import cut, followed, is_copies, pins_of, text_of
from touchpin.errors import GoesRound
from touchpin.pins import hold, is_pins

GREAT = 10 ** 59
LETTERS = "abcdefghijklmnopqrstuvwxyz"
LONG = ["a" * 300, "ab" * 150, (LETTERS * 12)[:300], fibonacci(300), scrambled("ab", 300), scrambled(LETTERS, 300),
        "a" * 299 + "b", "b" + "a" * 299, "a" * 150 + "b" * 150]
A, B = ("sign", "a"), ("sign", "b")
SMALL_FORMS = [form for signs in range(5) for form in all_forms("ab", signs)]

BEHIND = (A,) + tuple(("copy", place, 1) for place in range(299))
AHEAD = tuple(("copy", place, 1) for place in range(1, 300)) + (B,)
OVER_ITSELF = (A, B, ("copy", 0, 298))
OVER_ITSELF_AHEAD = (("copy", 2, 298), A, B)
ROUND = tuple(("copy", (place + 1) % 300, 1) for place in range(300))


class IsCopies(unittest.TestCase):
    def test_forms(self):
        forms = [(), (A,), (A, B), (A, ("copy", 0, 1)), (A, ("copy", 0, 2)), (("copy", 1, 1), A), (("sign", "z"),)]
        forms += [(("copy", 0, 1),), (("copy", 0, 300),), (("copy", 1, 1), ("copy", 0, 1)), (("copy", 1, 2), A)]
        for form in forms + [BEHIND, AHEAD, OVER_ITSELF, OVER_ITSELF_AHEAD, ROUND, tuple([A] * 300)]:
            self.assertIs(is_copies(form), True, form)

    def test_all_small_forms(self):
        for form in SMALL_FORMS:
            self.assertIs(is_copies(form), True, form)

    def test_copies_to_the_last_sign_and_beyond(self):
        for many in range(1, 6):
            for i in range(8):
                for form in [(A, B, ("copy", i, many)), (("copy", i, many), A, B), (A, ("copy", i, many), B)]:
                    self.assertIs(is_copies(form), i <= 2, form)
        self.assertIs(is_copies((("copy", 150, 150), ("copy", 0, 150))), True)
        self.assertIs(is_copies((("copy", 151, 150), ("copy", 0, 150))), False)
        self.assertIs(is_copies((A, ("copy", GREAT, 1))), False)

    def test_copies_from_below_and_of_no_signs(self):
        for part in [("copy", -1, 1), ("copy", -1, 2), ("copy", -GREAT, 1), ("copy", 0, 0), ("copy", 1, 0),
                     ("copy", 0, -1), ("copy", 1, -1), ("copy", 0, -GREAT), ("copy", -1, 0)]:
            for form in [(part,), (A, B, part), (part, A, B), (A, B, ("copy", 0, 2), part)]:
                self.assertIs(is_copies(form), False, form)

    def test_truths_are_no_numbers(self):
        for part in [("copy", True, 1), ("copy", False, 1), ("copy", 0, True), ("copy", False, True)]:
            for form in [(part,), (A, B, part), (part, A, B)]:
                self.assertIs(is_copies(form), False, form)

    def test_letters_that_are_none(self):
        letters = ["", "aa", "ab", "A", "Z", "1", " ", "-", "~", "`", "{", "\n", None, 0, 1, True, ("a",), ["a"]]
        for c in letters + ["\u00e4", "\u0430"]:
            for form in [(("sign", c),), (A, ("sign", c)), (("sign", c), A)]:
                self.assertIs(is_copies(form), False, form)
        for c in LETTERS:
            self.assertIs(is_copies((("sign", c),)), True)

    def test_numbers_that_are_none(self):
        for thing in [None, "", "0", "1", (), (1,), [], [1], nested(tuple, 1, 38), nested(list, 1, 38)]:
            for form in [(A, ("copy", thing, 1)), (A, ("copy", 0, thing)), (A, ("copy", thing, thing))]:
                self.assertIs(is_copies(form), False, form)

    def test_lists_for_tuples(self):
        things = [[], [A], [A, B], (["sign", "a"],), [["sign", "a"]], (A, ["copy", 0, 1]), [A, ("copy", 0, 1)]]
        for thing in things:
            self.assertIs(is_copies(thing), False, thing)

    def test_other_words(self):
        words = ["", "Sign", "SIGN", "signs", "sig", "sign ", "Copy", "copies", "cop", None, 0, True, (), [], ("sign",)]
        for word in words:
            self.assertIs(is_copies(((word, "a"),)), False, word)
            self.assertIs(is_copies((A, (word, 0, 1))), False, word)
        self.assertIs(is_copies((A, ("sign", 0, 1))), False)
        self.assertIs(is_copies((("copy", "a"),)), False)

    def test_parts_of_other_lengths(self):
        for part in [(), ("sign",), ("copy",), ("copy", 0), ("sign", "a", "a"), ("sign", "a", 1), ("copy", 0, 1, 1),
                     ("sign", "a", None), ("copy", 0, 1, None), "sign", "copy", "a", 0, None, True, [], ((),)]:
            for form in [(part,), (A, part), (part, A)]:
                self.assertIs(is_copies(form), False, form)

    def test_300_signs_and_one_more(self):
        for form in [tuple([A] * 301), BEHIND + (A,), ROUND + (A,), (("copy", 0, 301),), (("copy", 0, 300), A),
                     (A, ("copy", 0, 300)), (("copy", 0, 150), ("copy", 0, 151)), (A, ("copy", 0, GREAT))]:
            self.assertIs(is_copies(form), False)
        for form in [(("copy", 0, 299), A), (A, ("copy", 0, 299)), (("copy", 0, 150), ("copy", 0, 150))]:
            self.assertIs(is_copies(form), True)

    def test_anything(self):
        things = [None, True, False, 0, 1, GREAT, -GREAT, "", "a", "sign", [], [()], ((),), (((),),), A, (0,), ("a",)]
        for depth in range(1, 40):
            things += [nested(tuple, A, depth + 1), nested(list, A, depth), nested(tuple, [A], depth)]
        for thing in things:
            self.assertIs(is_copies(thing), False, thing)

    def test_as_the_document_says(self):
        parts = [A, ("sign", "{"), ("sign", True), ("sign", "ab"), ("copy", 0, 1), ("copy", 1, 2), ("copy", 2, 1),
                 ("copy", 0, 0), ("copy", True, 1), ("copy", -1, 2), ("copy", 297, 3), ("copy", 0, 297), ["sign", "a"]]
        for first in parts:
            for second in parts:
                for third in parts:
                    form = (first, second, third)
                    self.assertIs(is_copies(form), plain.is_form(form), form)

    def test_what_is_handed_in_stays(self):
        for thing in [[A], (["sign", "a"],), (A, ["copy", 0, [1]]), [], ([],)]:
            before = copy.deepcopy(thing)
            is_copies(thing)
            self.assertEqual(thing, before)

    def test_by_name(self):
        self.assertIs(is_copies(thing=(A,)), True)
        self.assertIs(is_copies(thing=[A]), False)


class Told(unittest.TestCase):
    """text_of, followed and pins_of."""

    def check(self, form):
        behind = [sign_behind(form, place) for place in range(sum(1 if p[0] == "sign" else p[2] for p in form))]
        for place, told in enumerate(behind):
            many = followed(form, place)
            if told is None:
                self.assertIs(many, None, form)
            else:
                self.assertEqual(many, told[1], (form, place))
                self.assertIs(type(many), int)
        if None in behind:
            self.check_refused(form, behind.index(None))
        else:
            self.check_told(form, "".join(letter for letter, _ in behind))

    def check_refused(self, form, place):
        for ask in (text_of, pins_of):
            with self.assertRaises(GoesRound) as caught:
                ask(form)
            self.assertIs(type(caught.exception), GoesRound)
            self.assertEqual(caught.exception.place, place, form)
            self.assertIs(type(caught.exception.place), int)

    def check_told(self, form, text):
        self.assertEqual(text_of(form), text, form)
        ends, last = [], -1
        for part in form:
            last += 1 if part[0] == "sign" else part[2]
            ends.append(last)
        pins = pins_of(form)
        self.assertEqual(pins, tuple(ends), form)
        self.assertIs(is_pins(text, pins), True, form)
        self.assertIs(hold(text, pins), True, form)

    def test_written_out(self):
        self.assertEqual(text_of(()), "")
        self.assertEqual(pins_of(()), ())
        form = (A, B, ("copy", 0, 3), ("sign", "z"))
        self.assertEqual(text_of(form), "ababaz")
        self.assertEqual(pins_of(form), (0, 1, 4, 5))
        self.assertEqual([followed(form, place) for place in range(6)], [0, 0, 1, 1, 2, 0])
        form = (("copy", 2, 3), A, B, ("copy", 1, 1))
        self.assertEqual(text_of(form), "bababa")
        self.assertEqual(pins_of(form), (2, 3, 4, 5))
        self.assertEqual([followed(form, place) for place in range(6)], [2, 1, 1, 0, 0, 2])
        self.assertEqual(text_of((("copy", 1, 2), A, B)), "aaab")
        self.assertEqual(text_of((("copy", 2, 2), A, B)), "abab")
        self.assertEqual(pins_of((("copy", 2, 2), A, B)), (1, 2, 3))
        self.assertEqual([followed((("copy", 1, 2), A, B), place) for place in range(4)], [2, 1, 0, 0])

    def test_all_small_forms(self):
        gone_round = 0
        for form in SMALL_FORMS:
            self.check(form)
            gone_round += any(followed(form, place) is None for place in range(len(form)))
        self.assertGreater(gone_round, 100)

    def test_copies_from_ahead_and_from_behind(self):
        for form in [(A, B, ("copy", 0, 2)), (("copy", 2, 2), A, B), (A, ("copy", 2, 1), B, ("copy", 0, 1)),
                     (A, ("copy", 3, 2), B, ("copy", 0, 3), ("copy", 7, 1), ("sign", "c"))]:
            self.check(form)

    def test_copies_that_overlap_themselves(self):
        self.assertEqual(text_of(OVER_ITSELF), "ab" * 150)
        self.assertEqual(pins_of(OVER_ITSELF), (0, 1, 299))
        self.assertEqual([followed(OVER_ITSELF, place) for place in (0, 1, 2, 3, 298, 299)], [0, 0, 1, 1, 149, 149])
        self.assertEqual(text_of(OVER_ITSELF_AHEAD), "ab" * 150)
        self.assertEqual(pins_of(OVER_ITSELF_AHEAD), (297, 298, 299))
        self.assertEqual([followed(OVER_ITSELF_AHEAD, place) for place in (0, 1, 297, 298, 299)], [149, 149, 1, 0, 0])
        for form in [OVER_ITSELF, OVER_ITSELF_AHEAD, (A, ("copy", 0, 299)), (("copy", 1, 299), A)]:
            self.check(form)

    def test_300_copies_one_behind_the_other(self):
        self.assertEqual(text_of(BEHIND), "a" * 300)
        self.assertEqual([followed(BEHIND, place) for place in range(300)], list(range(300)))
        self.assertEqual(text_of(AHEAD), "b" * 300)
        self.assertEqual([followed(AHEAD, place) for place in range(300)], list(range(299, -1, -1)))
        self.assertEqual(pins_of(AHEAD), tuple(range(300)))
        self.check(BEHIND)
        self.check(AHEAD)

    def test_to_and_fro(self):
        # From 0 one follows to 299, to 1, to 298, .. to the sign amid.
        form = [("copy", 299 - place, 1) for place in range(150)] + [A] + [("copy", 300 - place, 1)
                                                                          for place in range(151, 300)]
        self.assertEqual(followed(tuple(form), 0), 299)
        self.check(tuple(form))

    def test_going_round_from_all_places(self):
        for form in [(("copy", 0, 1),), (("copy", 0, 300),), (("copy", 1, 1), ("copy", 0, 1)), ROUND]:
            self.check(form)
            self.check_refused(form, 0)
        self.assertIs(followed(ROUND, 299), None)

    def test_going_round_from_some_places(self):
        self.check_refused((A, ("copy", 1, 1)), 1)
        self.check_refused((A, ("copy", 0, 1), ("copy", 2, 1), ("copy", 2, 1)), 2)
        self.check_refused((("copy", 2, 1), A, ("copy", 2, 1)), 0)
        self.check_refused((A, ("copy", 3, 1), B, ("copy", 4, 1), ("copy", 3, 1)), 1)
        self.check_refused((A, ("copy", 0, 149), ("copy", 150, 150)), 150)
        self.check_refused(BEHIND[:299] + (("copy", 299, 1),), 299)
        for form in [(A, ("copy", 1, 1)), (("copy", 2, 1), A, ("copy", 2, 1)), (A, ("copy", 2, 2), ("copy", 0, 2))]:
            self.check(form)

    def test_forms_of_copies_of_300_signs(self):
        for text in LONG:
            form = cut(text)
            self.check_told(form, text)

    def test_by_name(self):
        self.assertEqual(text_of(form=(A, ("copy", 0, 1))), "aa")
        self.assertEqual(pins_of(form=(A, ("copy", 0, 2))), (0, 2))
        self.assertEqual(followed(place=2, form=(A, ("copy", 0, 2))), 2)


class Cut(unittest.TestCase):
    def fewest(self, text, begin=0):
        """The fewest parts from a place on, each copy from below its own beginning."""
        if begin == len(text):
            return 0
        ends = [end for end in range(begin + 1, len(text) + 1)
                if end == begin + 1 or any(text[i:i + end - begin] == text[begin:end] for i in range(begin))]
        return 1 + min(self.fewest(text, end) for end in ends)

    def test_no_signs(self):
        self.assertEqual(cut(""), ())

    def test_written_out(self):
        self.assertEqual(cut("a"), (A,))
        self.assertEqual(cut("ab"), (A, B))
        self.assertEqual(cut("aab"), (A, ("copy", 0, 1), B))
        self.assertEqual(cut("ababab"), (A, B, ("copy", 0, 4)))
        self.assertEqual(cut("abaab"), (A, B, ("copy", 0, 1), ("copy", 0, 2)))
        self.assertEqual(cut("banana"), (B, A, ("sign", "n"), ("copy", 1, 3)))

    def test_the_least_place(self):
        self.assertEqual(cut("abcabdab"), (A, B, ("sign", "c"), ("copy", 0, 2), ("sign", "d"), ("copy", 0, 2)))
        self.assertEqual(cut("abaca"), (A, B, ("copy", 0, 1), ("sign", "c"), ("copy", 0, 1)))

    def test_the_longest_before_the_least(self):
        self.assertEqual(cut("abacac"), (A, B, ("copy", 0, 1), ("sign", "c"), ("copy", 2, 2)))

    def test_one_letter_again_and_again(self):
        for many in range(2, 301):
            self.assertEqual(cut("z" * many), (("sign", "z"), ("copy", 0, many - 1)))

    def test_small_texts(self):
        for text in all_texts("ab", 8) + all_texts("abc", 6) + all_texts("abcd", 4):
            told = cut(text)
            self.assertEqual(told, plain.cut(text), text)
            self.assertIs(is_copies(told), True, text)
            self.assertEqual(text_of(told), text)
            self.assertIs(hold(text, pins_of(told)), True, text)

    def test_300_signs(self):
        for text in LONG:
            told = cut(text)
            self.assertIs(is_copies(told), True)
            self.assertEqual(text_of(told), text)
            begin = 0
            for part in told:
                begin += self.check_part(text, begin, part)
            self.assertEqual(begin, 300)

    def check_part(self, text, begin, part):
        if part[0] == "sign":
            self.assertNotIn(text[begin], text[:begin])
            return 1
        _, i, many = part
        piece = text[begin:begin + many]
        self.assertEqual(text.find(piece), i)
        self.assertLess(i, begin)
        longer = text[begin:begin + many + 1]
        self.assertTrue(longer == piece or text.find(longer) == begin)
        return many

    def test_kinds(self):
        for part in cut("abcabcabd"):
            self.assertIs(type(part), tuple)
        self.assertIs(type(cut("ab")), tuple)

    def test_no_fewer_parts(self):
        for text in all_texts("ab", 8) + all_texts("abc", 5):
            self.assertEqual(len(cut(text)), self.fewest(text), text)

    def test_no_form_of_all_has_fewer_parts(self):
        for form in SMALL_FORMS:
            begins = [sum(1 if p[0] == "sign" else p[2] for p in form[:at]) for at in range(len(form))]
            if all(part[0] == "sign" or part[1] < begin for part, begin in zip(form, begins)):
                self.assertLessEqual(len(cut(text_of(form))), len(form), form)

    def test_by_name(self):
        self.assertEqual(cut(text="aa"), (A, ("copy", 0, 1)))


if __name__ == "__main__":
    unittest.main()
