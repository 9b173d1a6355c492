import unittest

import plain
from plain import all_pins, all_texts, fibonacci, scrambled, spans_from, touched_at
from touchpin.copies import cut, pins_of, text_of
from touchpin.counted import bound, shows_bound
from touchpin.desk import Desk
from touchpin.errors import Missed, NoRow, TooMany
from touchpin.least import least
from touchpin.pins import hold
from touchpin.texts import form_text, read_form

LETTERS = "abcdefghijklmnopqrstuvwxyz"
LONG = ["a" * 300, "ab" * 150, (LETTERS * 12)[:300], fibonacci(300), scrambled("ab", 300), scrambled(LETTERS, 300)]
# What tells all that a desk keeps and changes nothing of it.
SHOWN = ["holds", "bound", "cut", "turned", "seek a", "seek b", "seek ab"]
ROWS = SHOWN + ["least", "back", "pins -", "pins 0", "put a", "text abc", "text -"]


def desk_of(text, pins=()):
    desk = Desk()
    desk.say("text " + (text or "-"))
    desk.say("pins " + (" ".join(map(str, pins)) or "-"))
    return desk


class Desks(unittest.TestCase):
    def check_refused(self, desk, row, kind=NoRow):
        """The row is refused, by this kind alone, and changes nothing."""
        before = self.shown(desk)
        with self.assertRaises(kind) as caught:
            desk.say(row)
        self.assertIs(type(caught.exception), kind, row)
        self.assertEqual(self.shown(desk), before, row)
        return caught.exception

    def shown(self, desk):
        try:
            return [desk.say(row) for row in SHOWN]
        except NoRow:
            return None


class Answers(Desks):
    def test_text(self):
        for word in ["-", "a", "banana", LETTERS, "z" * 300]:
            desk = Desk()
            self.assertEqual(desk.say("text " + word), "ok")
            text = "" if word == "-" else word
            self.assertEqual(desk.say("turned"), plain.turned(text))

    def test_a_text_anew_takes_the_pins_away(self):
        for text in ["ab", "aba", "b", "-"]:
            desk = desk_of("ab", (0, 1))
            self.assertEqual(desk.say("holds"), "yes")
            self.assertEqual(desk.say("text " + text), "ok")
            self.assertEqual(desk.say("holds"), "yes" if text == "-" else "no " + min(text))

    def test_pins(self):
        desk = desk_of("banana")
        self.assertEqual(desk.say("holds"), "no a")
        self.assertEqual(desk.say("pins 0 1 2"), "ok")
        self.assertEqual(desk.say("holds"), "yes")
        self.assertEqual(desk.say("pins 0 2"), "ok")
        self.assertEqual(desk.say("holds"), "no a")
        self.assertEqual(desk.say("pins 5"), "ok")
        self.assertEqual(desk.say("holds"), "no b")
        self.assertEqual(desk.say("pins -"), "ok")
        self.assertEqual(desk.say("holds"), "no a")
        desk = desk_of("a" * 300)
        self.assertEqual(desk.say("pins " + " ".join(map(str, range(300)))), "ok")
        self.assertEqual(desk.say("pins 299"), "ok")
        self.assertEqual(desk.say("seek a"), "299")

    def test_pins_of_no_signs(self):
        desk = desk_of("")
        self.assertEqual(desk.say("pins -"), "ok")
        self.check_refused(desk, "pins 0")

    def test_put(self):
        desk = desk_of("")
        self.assertEqual([desk.say("put " + letter) for letter in "bananax"], ["1", "2", "3", "3", "3", "3", "7"])
        self.assertEqual(desk.say("turned"), plain.turned("bananax"))
        desk = desk_of("bana")
        self.assertEqual(desk.say("put n"), "3")

    def test_put_keeps_the_pins(self):
        desk = desk_of("ab", (0, 1))
        self.assertEqual(desk.say("put a"), "2")
        self.assertEqual(desk.say("holds"), "yes")
        self.assertEqual(desk.say("put c"), "4")
        self.assertEqual(desk.say("holds"), "no c")
        self.assertEqual(desk.say("seek ab"), "0")
        self.assertEqual(desk.say("seek a"), "0")
        self.assertEqual(desk.say("seek c"), "none")
        self.assertEqual(desk.say("pins 0 1 3"), "ok")
        self.assertEqual(desk.say("holds"), "yes")

    def test_holds(self):
        for text in all_texts("ab", 5):
            for pins in all_pins(text):
                missed = plain.first_missed(text, pins)
                self.assertEqual(desk_of(text, pins).say("holds"), "yes" if missed is None else "no " + missed)

    def test_least(self):
        self.assertEqual(desk_of("").say("least"), "0")
        self.assertEqual(desk_of("a" * 12).say("least").split(" ")[0], "1")
        for text in all_texts("ab", 6)[1:] + ["banana", "abcabdabcabd", "abcdefghijkl"]:
            number, *pins = [int(word) for word in desk_of(text).say("least").split(" ")]
            self.assertEqual(number, least(text)[0])
            self.assertEqual(len(pins), number)
            self.assertEqual(pins, sorted(pins))
            self.assertIs(hold(text, tuple(pins)), True)

    def test_bound(self):
        self.assertEqual(desk_of("").say("bound"), "0")
        self.assertEqual(desk_of("a").say("bound"), "1 1")
        for text in all_texts("ab", 6)[1:] + LONG:
            number, length = [int(word) for word in desk_of(text).say("bound").split(" ")]
            self.assertEqual(number, bound(text)[0])
            self.assertIs(shows_bound(text, number, length), True)

    def test_cut(self):
        self.assertEqual(desk_of("").say("cut"), "-")
        self.assertEqual(desk_of("banana").say("cut"), "b a n 1:3")
        for text in all_texts("ab", 6)[1:] + LONG:
            self.assertEqual(desk_of(text).say("cut"), form_text(plain.cut(text)))

    def test_back(self):
        self.assertEqual(desk_of("").say("back"), "-")
        self.assertEqual(desk_of("aa", (1,)).say("back"), "1:1 a")
        for text in all_texts("ab", 5)[1:] + LONG:
            for pins in all_pins(text) if len(text) < 6 else [pins_of(cut(text)), tuple(range(300))]:
                if hold(text, pins):
                    self.check_back(text, pins)

    def check_back(self, text, pins):
        form = read_form(desk_of(text, pins).say("back"))
        self.assertEqual(text_of(form), text)
        begin, spans = 0, []
        for part in form:
            many = 1 if part[0] == "sign" else part[2]
            self.assertIs(part[0] == "sign", begin in pins)
            if part[0] == "copy":
                spans.append((begin, many))
                self.assertIn(part[1], touched_at(text, pins, text[begin:begin + many]))
            begin += many
        self.assertEqual(spans, spans_from(text, pins))

    def test_seek(self):
        for text in all_texts("ab", 4) + ["banana"]:
            for pins in all_pins(text):
                desk = desk_of(text, pins)
                for piece in ["a", "b", "ab", "ba", "aab", "ana", "c", "abababab"]:
                    place = min(touched_at(text, pins, piece), default=None)
                    self.assertEqual(desk.say("seek " + piece), "none" if place is None else str(place))

    def test_seek_however_many(self):
        desk = desk_of("a" * 300, (150,))
        self.assertEqual(desk.say("seek " + "a" * 300), "0")
        self.assertEqual(desk.say("seek " + "a" * 301), "none")
        self.assertEqual(desk.say("seek " + "a" * 5000), "none")

    def test_turned(self):
        for text in all_texts("ab", 5) + LONG:
            self.assertEqual(desk_of(text).say("turned"), plain.turned(text))

    def test_answers_are_texts(self):
        for row in ROWS:
            desk = desk_of("ab", (0, 1))
            self.assertIs(type(desk.say(row)), str)

    def test_the_text_without_signs_is_a_text(self):
        desk = desk_of("")
        rows = ["holds", "least", "bound", "cut", "back", "seek a", "turned", "pins -", "put z"]
        self.assertEqual([desk.say(row) for row in rows], ["yes", "0", "0", "-", "-", "none", ".", "ok", "1"])

    def test_by_name(self):
        self.assertEqual(Desk().say(row="text a"), "ok")


class Refusals(Desks):
    def test_where_no_text_is(self):
        for row in ROWS + ["pins", "pins 1 2", "put b", "put", "seek", "", "-", "text", "text A", "text " + "a" * 301]:
            if row not in ("text abc", "text -"):
                desk = Desk()
                self.check_refused(desk, row)
                self.check_refused(desk, "holds")
                self.assertEqual(desk.say("text a"), "ok")

    def test_other_words(self):
        rows = ["", " ", "-", "a", "x", "hold", "Holds", "HOLDS", "holds.", "cuts", "turn", "pin 0", "puts a",
                "texts a", "seeks a", "text:a", "TEXT a", "Text a", "PINS 0", "Put a", "PUT a", "Seek a", "LEAST",
                "Bound", "Cut", "Back", "Turned", "many", "parts", "say", "yes", "ok", "begin a", "quit", "0", "1 2"]
        for row in rows:
            self.check_refused(desk_of("banana", (0, 1)), row)

    def test_a_word_more_or_fewer(self):
        alone = ["holds", "least", "bound", "cut", "back", "turned"]
        for word in alone:
            for more in ["a", "0", "-", word]:
                self.check_refused(desk_of("banana", (0, 1)), word + " " + more)
        for row in ["text", "text ", "text a b", "text - -", "text a -", "pins", "pins ", "pins - -", "pins - 0",
                    "pins 0 -", "put", "put ", "put a b", "put a a", "seek", "seek ", "seek a b"]:
            self.check_refused(desk_of("banana", (0, 1)), row)

    def test_blanks_tabs_and_line_feeds(self):
        for row in ROWS + ["pins 0 1"]:
            rows = [" " + row, row + " ", row + "\n", "\n" + row, row + "\t", "\t" + row]
            if " " in row:
                rows += [row.replace(" ", "  ", 1), row.replace(" ", "\t", 1), row.replace(" ", "\n", 1),
                         row.replace(" ", " \t", 1), row.replace(" ", "\n ", 1)]
            for other in rows:
                self.check_refused(desk_of("ab", (0, 1)), other)

    def test_texts_that_are_none(self):
        for word in ["A", "aB", "1", "a1", "--", "-a", "a-", ".", "a.", "_", "a" * 301, "a" * 1000, "a\tb", "a:b", "~"]:
            self.check_refused(desk_of("banana", (0, 1)), "text " + word)
        self.assertEqual(Desk().say("text " + "a" * 300), "ok")

    def test_pins_that_are_none(self):
        for words in ["6", "0 6", "999", "1000", "0 0", "1 0", "0 2 1", "-1", "+1", "00", "01", "0 01", "1.", "a",
                      "0 a", "x1", "0,1", "0:1", "True", "0\t1", "1_0", "0 1 2 3 4 5 6"]:
            self.check_refused(desk_of("banana", (0, 1)), "pins " + words)
        self.check_refused(desk_of("a" * 300), "pins 300")
        self.check_refused(desk_of("a" * 300), "pins 0299")

    def test_letters_that_are_none(self):
        for word in ["A", "Z", "ab", "aa", "0", "1", "-", ".", "", "\n", "\t", "~", "`", "{", "a\n"]:
            self.check_refused(desk_of("banana", (0, 1)), "put " + word)
            if word not in ("ab", "aa"):
                self.check_refused(desk_of("banana", (0, 1)), "seek " + word)
        for word in ["aB", "a1", "a-", "-a", "a.b", "a" * 300 + "A"]:
            self.check_refused(desk_of("banana", (0, 1)), "seek " + word)

    def test_least_beyond_12_signs(self):
        for text in ["a" * 13, "abcdefghijklm", "a" * 300]:
            self.check_refused(desk_of(text, (0,)), "least", TooMany)
            self.check_refused(desk_of(text, (0,)), "least a")
        desk = desk_of("a" * 12)
        desk.say("put a")
        self.check_refused(desk, "least", TooMany)

    def test_put_at_300_signs(self):
        for text in LONG:
            desk = desk_of(text, (0, 7))
            self.check_refused(desk, "put a", TooMany)
            self.check_refused(desk, "put z", TooMany)
            # What is no row at all is refused as such first.
            self.check_refused(desk, "put A")
            self.check_refused(desk, "put ab")
            self.check_refused(desk, "put")
        desk = desk_of("a" * 299)
        self.assertEqual(desk.say("put b"), "300")
        self.check_refused(desk, "put b", TooMany)

    def test_back_of_pins_that_miss(self):
        for text in all_texts("ab", 4)[1:]:
            for pins in all_pins(text):
                missed = plain.first_missed(text, pins)
                if missed is not None:
                    self.assertEqual(self.check_refused(desk_of(text, pins), "back", Missed).piece, missed)
                    self.check_refused(desk_of(text, pins), "back a")

    def test_what_is_refused_keeps_text_and_pins(self):
        desk = desk_of("abab", (1, 2))
        for row in ["text A", "text", "pins 9", "pins 2 1", "put A", "nothing"]:
            self.check_refused(desk, row)
        self.assertEqual(desk.say("back"), form_text(read_form("2:1 b a 1:1")))
        self.assertEqual(desk.say("holds"), "yes")
        self.assertEqual(desk.say("put a"), "2")


class TwoDesks(Desks):
    def test_by_turns(self):
        first, second = Desk(), Desk()
        first.say("text ab")
        self.check_refused(second, "holds")
        second.say("text aab")
        first.say("pins 0 1")
        self.assertEqual(second.say("holds"), "no a")
        second.say("pins 0 2")
        for letter in "abba":
            first.say("put " + letter)
            second.say("put b")
        self.assertEqual(first.say("turned"), plain.turned("ababba"))
        self.assertEqual(second.say("turned"), plain.turned("aabbbbb"))
        self.assertEqual(first.say("cut"), form_text(plain.cut("ababba")))
        self.assertEqual(second.say("cut"), form_text(plain.cut("aabbbbb")))
        self.assertEqual(first.say("seek b"), "1")
        self.assertEqual(second.say("seek b"), "2")
        self.assertEqual(second.say("seek bbbb"), "2")
        first.say("text -")
        self.assertEqual(second.say("turned"), plain.turned("aabbbbb"))


if __name__ == "__main__":
    unittest.main()
