"""What the document promises over the whole program: points 1 to 3."""

import copy
import importlib
import inspect
import unittest

from plain import all_texts, fibonacci, scrambled, some_rows
from touchpin.asked import first_strange, seek
from touchpin.back import copies_from
from touchpin.copies import cut, followed, is_copies, pins_of, text_of
from touchpin.counted import bound, shows_bound
from touchpin.desk import Desk
from touchpin.errors import PinError
from touchpin.growing import Growing
from touchpin.least import least, shows_missing
from touchpin.pieces import counts, pieces_of, stands_at
from touchpin.pins import first_missed, hold, is_pins, joined, turned_about
from touchpin.rows import first_met, is_rows, pins_of_rows, text_of_rows
from touchpin.texts import form_text, read_form, read_rows, rows_text
from touchpin.turns import pins_of_turns, runs, turned, turned_back

LETTERS = "abcdefghijklmnopqrstuvwxyz"
SMALL = all_texts("ab", 6) + all_texts("abc", 4) + ["banana", "abcabdabcabd", "mississippi"]
LONG = ["a" * 300, "ab" * 150, (LETTERS * 12)[:300], fibonacci(300), scrambled("ab", 300), scrambled(LETTERS, 300),
        "a" * 299 + "b", "b" + "a" * 299, "a" * 150 + "b" * 150]
ROWS = [some_rows(state) for state in range(200)]

INTERFACE = {
    "errors": {"PinError": None, "TooMany": None, "NoTurned": None, "NoRow": None, "GoesRound": ["place"],
               "Missed": ["piece"], "NoText": ["number"]},
    "pieces": {"is_text": ["thing"], "stands_at": ["text", "piece"], "pieces_of": ["text", "length"],
               "counts": ["text"]},
    "pins": {"is_pins": ["text", "thing"], "hold": ["text", "pins"], "first_missed": ["text", "pins"],
             "joined": ["text", "pins", "other", "other_pins"], "turned_about": ["text", "pins"]},
    "least": {"least": ["text"], "shows_missing": ["text", "m", "thing"]},
    "counted": {"bound": ["text"], "shows_bound": ["text", "number", "length"]},
    "copies": {"is_copies": ["thing"], "text_of": ["form"], "followed": ["form", "place"], "pins_of": ["form"],
               "cut": ["text"]},
    "rows": {"is_rows": ["thing"], "text_of_rows": ["rows"], "first_met": ["rows"], "pins_of_rows": ["rows"]},
    "turns": {"turned": ["text"], "turned_back": ["last"], "runs": ["last"], "pins_of_turns": ["text"]},
    "back": {"copies_from": ["text", "pins"]},
    "asked": {"seek": ["form", "pins", "piece"], "first_strange": ["text", "other"]},
    "growing": {"Growing": []},
    "texts": {"form_text": ["form"], "rows_text": ["rows"], "read_form": ["text"], "read_rows": ["text"]},
    "desk": {"Desk": []},
}
METHODS = {
    ("growing", "Growing"): {"put": ["c"], "text": [], "many": [], "parts": [], "pins": [], "bound": []},
    ("desk", "Desk"): {"say": ["row"]},
}


def pins_by_all_ways(text):
    """The pins that each way to get some tells of a text."""
    growing = Growing()
    for letter in text:
        growing.put(letter)
    ways = [pins_of(cut(text)), pins_of_turns(text), growing.pins(), tuple(range(len(text)))]
    return ways + [least(text)[1]] if len(text) <= 12 else ways


class Interface(unittest.TestCase):
    def names(self, thing):
        parameters = inspect.signature(thing).parameters.values()
        self.assertTrue(all(each.kind is each.POSITIONAL_OR_KEYWORD and each.default is each.empty
                            for each in parameters))
        return [each.name for each in parameters]

    def test_functions_and_classes(self):
        for module, listed in INTERFACE.items():
            held = importlib.import_module("touchpin." + module)
            for name, arguments in listed.items():
                thing = getattr(held, name)
                self.assertEqual(thing.__module__, "touchpin." + module)
                if arguments is not None:
                    self.assertEqual(self.names(thing), arguments, (module, name))

    def test_methods_stand_in_their_class(self):
        for (module, name), listed in METHODS.items():
            kind = getattr(importlib.import_module("touchpin." + module), name)
            for method, arguments in listed.items():
                self.assertEqual(self.names(vars(kind)[method]), ["self"] + arguments)


class PinsThatHold(unittest.TestCase):
    def test_each_way_holds_and_is_no_fewer_than_the_bound(self):
        for text in SMALL + LONG:
            number, length = bound(text)
            for pins in pins_by_all_ways(text):
                self.assertIs(is_pins(text, pins), True, text)
                self.assertIs(hold(text, pins), True, text)
                self.assertGreaterEqual(len(pins), number, text)
            self.assertIs(length is None or shows_bound(text, number, length), True)

    def test_no_more_than_parts_and_runs_twice(self):
        for text in SMALL + LONG:
            self.assertLessEqual(len(pins_of(cut(text))), len(cut(text)))
            self.assertLessEqual(len(pins_of_turns(text)), 2 * runs(turned(text)))

    def test_of_rows(self):
        for rows in ROWS:
            text, pins = text_of_rows(rows), pins_of_rows(rows)
            self.assertIs(hold(text, pins), True, rows)
            self.assertGreaterEqual(len(pins), bound(text)[0])
            self.assertLessEqual(len(pins), sum(len(row) for row in rows))
            self.assertEqual(text_of(copies_from(text, pins)), text)

    def test_no_way_has_fewer_than_the_least(self):
        for text in SMALL:
            number, _, tree = least(text)
            self.assertIs(tree is None or shows_missing(text, number - 1, tree), True)
            self.assertGreaterEqual(number, bound(text)[0])
            for pins in pins_by_all_ways(text):
                self.assertGreaterEqual(len(pins), number, text)

    def test_joined_and_turned_about(self):
        for text in SMALL[::3]:
            for other in SMALL[::7]:
                pins = joined(text, pins_of(cut(text)), other, pins_of_turns(other))
                self.assertIs(hold(text + other, pins), True)
                self.assertIs(hold((text + other)[::-1], turned_about(text + other, pins)), True)


class FormsFromPins(unittest.TestCase):
    def test_the_text_again(self):
        for text in SMALL + LONG:
            for pins in pins_by_all_ways(text):
                form = copies_from(text, pins)
                self.assertIs(is_copies(form), True)
                self.assertEqual(text_of(form), text)
                self.assertEqual(read_form(form_text(form)), form)
                self.assertIs(hold(text, pins_of(form)), True)
                self.assertTrue(all(followed(form, place) <= 9 for place in range(len(text))))

    def test_a_piece_is_found_just_where_it_stands(self):
        asked = all_texts("abc", 3)[1:] + ["d", "nan", "issi", "ababab", "a" * 13]
        for text in SMALL[::2]:
            for pins in pins_by_all_ways(text):
                form = copies_from(text, pins)
                for piece in asked:
                    place = seek(form, pins, piece)
                    self.assertIs(place is None, piece not in text, (text, pins, piece))
                    self.assertTrue(place is None or place in stands_at(text, piece))

    def test_a_piece_is_found_in_300_signs(self):
        for text in LONG:
            for pins in pins_by_all_ways(text):
                form = copies_from(text, pins)
                for piece in [text[i:i + many] for i in range(0, 300, 37) for many in (1, 2, 9, 120)] + ["qq", "bba"]:
                    self.assertIs(seek(form, pins, piece) is None, piece not in text)

    def test_strange_pieces_are_found_nowhere(self):
        for text in SMALL[::5] + LONG[1:4]:
            for other in SMALL[::9] + LONG[2:6]:
                piece = first_strange(text, other)
                # The other text is a piece of itself, and where it stands all of its pieces do.
                self.assertIs(piece is None, other in text)
                if piece is not None:
                    self.assertIs(seek(cut(text), pins_of(cut(text)), piece), None)


class WhileItGrows(unittest.TestCase):
    def test_it_comes_to_cut_pins_and_bound(self):
        for text in SMALL + LONG:
            growing = Growing()
            told = [growing.put(letter) for letter in text]
            self.assertEqual(growing.text(), text)
            self.assertEqual(growing.many(), sum(told))
            self.assertEqual(growing.many(), sum(counts(text)))
            self.assertEqual(growing.parts(), cut(text))
            self.assertEqual(growing.pins(), pins_of(cut(text)))
            self.assertEqual(growing.bound()[0], bound(text)[0])

    def test_a_desk_says_the_same(self):
        for text in SMALL[1:40] + LONG[3:5]:
            desk = Desk()
            desk.say("text -")
            growing = Growing()
            for letter in text:
                self.assertEqual(desk.say("put " + letter), str(growing.put(letter)))
            self.assertEqual(desk.say("cut"), form_text(growing.parts()))
            self.assertEqual(desk.say("pins " + " ".join(map(str, growing.pins()))), "ok")
            self.assertEqual(desk.say("holds"), "yes")
            self.assertEqual(text_of(read_form(desk.say("back"))), text)
            self.assertEqual(turned_back(desk.say("turned")), text)


class NothingIsKept(unittest.TestCase):
    def test_told_lists_are_new(self):
        rows = (("a",), ("b", 0, 0))
        asks = [lambda: stands_at("abab", "ab"), lambda: pieces_of("abab", 2), lambda: counts("abab"),
                lambda: first_met(rows), lambda: least("aba")[2][1]]
        for ask in asks:
            before = copy.deepcopy(ask())
            told = ask()
            self.assertIsNot(told, ask())
            told.clear()
            self.assertEqual(ask(), before)

    def test_trees_are_new_throughout(self):
        told = least("abcab")[2]
        before = copy.deepcopy(told)
        told[1][0][1][1].clear()
        told[1].clear()
        self.assertEqual(least("abcab")[2], before)

    def test_anything_asked_stays(self):
        things = [[("a",)], (["a"],), [0, [1]], (("sign", ["a"]),), [[], ()], ("a", [("a", [])])]
        for thing in things:
            before = copy.deepcopy(thing)
            told = [is_pins("ab", thing), is_copies(thing), is_rows(thing), shows_missing("ab", 1, thing)]
            self.assertEqual(told, [False] * 4)
            self.assertEqual(thing, before)


class Refusals(unittest.TestCase):
    def test_all_are_pin_errors(self):
        asks = [lambda: least("a" * 13), lambda: text_of((("copy", 0, 1),)), lambda: pins_of((("copy", 0, 1),)),
                lambda: text_of_rows((("a",),) + tuple((k, k) for k in range(20))), lambda: turned_back("a"),
                lambda: copies_from("a", ()), lambda: read_form("A"), lambda: read_rows(""), lambda: Desk().say("")]
        for ask in asks:
            with self.assertRaises(PinError) as caught:
                ask()
            self.assertIs(type(caught.exception).__base__, PinError)
            self.assertIsNone(first_missed("ab", (0, 1)))

    def test_rows_written_and_read(self):
        for rows in ROWS:
            self.assertEqual(text_of_rows(read_rows(rows_text(rows))), text_of_rows(rows))


class Limits(unittest.TestCase):
    def test_somewhat_beyond(self):
        text = fibonacci(330)
        self.assertEqual(turned_back(turned(text)), text)
        for pins in [pins_of(cut(text)), pins_of_turns(text)]:
            self.assertIs(hold(text, pins), True)
            self.assertEqual(text_of(copies_from(text, pins)), text)
        self.assertIs(first_strange(text, text), None)
        rows = (("a",),) + tuple((number,) for number in range(69))
        self.assertEqual(text_of_rows(rows), "a")
        self.assertEqual(pins_of_rows(rows), (0,))


if __name__ == "__main__":
    unittest.main()
