import copy
import unittest

import plain
from plain import nested, some_rows
from touchpin.errors import TooMany
from touchpin.pins import hold, is_pins
from touchpin.rows import first_met, is_rows, pins_of_rows, text_of_rows

GREAT = 10 ** 59
LETTERS = "abcdefghijklmnopqrstuvwxyz"
CHAIN = (("a",),) + tuple((number,) for number in range(59))
DOUBLING = (("a",),) + tuple((number, number) for number in range(59))
GROWING = (("a", "b"),) + tuple((number, "c") for number in range(59))
SOME = [some_rows(state) for state in range(600)]


class IsRows(unittest.TestCase):
    def test_rows(self):
        things = [(("a",),), (("z",),), (("a", "b"), (0, "c", 0)), (("a",), ("b",)), (("a",), (0,), (0, 1))]
        for thing in things + [CHAIN, DOUBLING, GROWING] + SOME:
            self.assertIs(is_rows(thing), True, thing)

    def test_one_to_sixty_rows(self):
        self.assertIs(is_rows(()), False)
        for many in range(1, 70):
            self.assertIs(is_rows(tuple([("a",)] * many)), many <= 60, many)
        self.assertIs(is_rows(CHAIN + ((59,),)), False)

    def test_one_to_twelve_items(self):
        for many in range(20):
            for item in ["a", 0]:
                self.assertIs(is_rows((("b",), tuple([item] * many))), 1 <= many <= 12, many)
            self.assertIs(is_rows((tuple("a" * many),)), 1 <= many <= 12, many)
            self.assertIs(is_rows((tuple("a" * many), ("b",))), 1 <= many <= 12, many)

    def test_letters(self):
        for letter in LETTERS:
            self.assertIs(is_rows(((letter,),)), True)
            self.assertIs(is_rows((("a",), ("b", letter, 0))), True)

    def test_letters_that_are_none(self):
        things = ["", "aa", "ab", "A", "Z", "0", "1", " ", "-", ".", "~", "`", "{", "\n", "\t", "a "]
        for thing in things + ["\u00e4", "\u0430"]:
            for rows in [((thing,),), (("a", thing),), ((thing, "a"),), (("a",), (thing,)), ((thing,), ("a",))]:
                self.assertIs(is_rows(rows), False, rows)

    def test_numbers(self):
        for number in range(60):
            for item in list(range(-2, 62)) + [GREAT, -GREAT]:
                rows = [("a",)] * 60
                rows[number] = ("b", item)
                self.assertIs(is_rows(tuple(rows)), 0 <= item < number, (number, item))

    def test_the_first_row_names_none(self):
        for number in [0, 1, -1, GREAT, -GREAT]:
            self.assertIs(is_rows(((number,),)), False)
            self.assertIs(is_rows(((number,), ("a",))), False)

    def test_truths_are_no_numbers(self):
        for truth in [True, False]:
            self.assertIs(is_rows((("a",), ("b",), (truth,))), False)
            self.assertIs(is_rows((("a",), ("b",), ("a", truth, 0))), False)
            self.assertIs(is_rows(((truth,),)), False)

    def test_lists_for_tuples(self):
        for thing in [[], [("a",)], (["a"],), [["a"]], (("a",), ["b"]), (["a"], (0,)), [("a",), (0,)]]:
            self.assertIs(is_rows(thing), False, thing)

    def test_other_items(self):
        for thing in [None, (), ("a",), [], ["a"], [0], (0,), nested(tuple, "a", 38), nested(list, "a", 38)]:
            for rows in [((thing,),), (("a",), (thing,)), (("a",), (0, thing)), (("a",), (thing, "b"))]:
                self.assertIs(is_rows(rows), False, rows)

    def test_anything(self):
        things = [None, True, False, 0, 1, 60, GREAT, -GREAT, "", "a", "ab", [], (), ((),), [()], ("a",), ("a", "b"),
                  (0,), (None,), ("",), ((("a",),),), (("a",), ()), ((), ("a",)), (("a",), None), (("a",), "b")]
        for depth in range(3, 41):
            things += [nested(tuple, "a", depth), nested(list, "a", depth)]
        for thing in things:
            self.assertIs(is_rows(thing), False, thing)

    def test_what_is_handed_in_stays(self):
        for thing in [[("a",)], (["a"],), (("a",), [0, [1]]), [], ([],), [["a", 0]]]:
            before = copy.deepcopy(thing)
            is_rows(thing)
            self.assertEqual(thing, before)

    def test_by_name(self):
        self.assertIs(is_rows(thing=(("a",),)), True)
        self.assertIs(is_rows(thing=()), False)


class Told(unittest.TestCase):
    """text_of_rows, first_met and pins_of_rows."""

    def check(self, rows):
        text = plain.row_text(rows, len(rows) - 1)
        self.assertEqual(text_of_rows(rows), text, rows)
        met = first_met(rows)
        self.assertEqual(met, plain.first_met(rows), rows)
        self.assertIs(type(met), list)
        self.assertEqual({type(place) for place in met} - {type(None)}, {int})
        pins = pins_of_rows(rows)
        self.assertEqual(pins, plain.pins_of_rows(rows), rows)
        self.check_pins(rows, text, pins)

    def check_pins(self, rows, text, pins):
        self.assertIs(is_pins(text, pins), True, rows)
        self.assertIs(hold(text, pins), True, rows)
        self.assertLessEqual(len(pins), sum(map(len, rows)))

    def check_refused(self, rows):
        for ask in (text_of_rows, first_met, pins_of_rows):
            with self.assertRaises(TooMany) as caught:
                ask(rows)
            self.assertIs(type(caught.exception), TooMany)

    def test_one_row(self):
        rows = (("a",),)
        self.assertEqual(text_of_rows(rows), "a")
        self.assertEqual(first_met(rows), [0])
        self.assertEqual(pins_of_rows(rows), (0,))
        rows = (tuple("banana"),)
        self.assertEqual(text_of_rows(rows), "banana")
        self.assertEqual(first_met(rows), [0])
        self.assertEqual(pins_of_rows(rows), (0, 1, 2, 3, 4))
        self.assertEqual(pins_of_rows((tuple("aab"),)), (0, 1, 2))

    def test_rows_that_name_one_another(self):
        rows = (("a", "b"), ("c", 0), (1, 0, 1, "d"))
        self.assertEqual(text_of_rows(rows), "cababcabd")
        self.assertEqual(first_met(rows), [1, 0, 0])
        # The last row's items end at 2, 4, 7; row 1's first one at 0; row 0's at 1; and d, b are first at 8, 2.
        self.assertEqual(pins_of_rows(rows), (0, 1, 2, 4, 7, 8))
        self.check(rows)

    def test_rows_that_are_not_met(self):
        rows = (("a", "b"), ("c", "d"), (1, "a"), (0, "a", 0))
        self.assertEqual(text_of_rows(rows), "abaab")
        self.assertEqual(first_met(rows), [0, None, None, 0])
        self.assertEqual(pins_of_rows(rows), (0, 1, 2))
        rows = (("a", "b", "c"), ("z",))
        self.assertEqual(first_met(rows), [None, 0])
        self.assertEqual(pins_of_rows(rows), (0,))

    def test_named_only_by_rows_that_are_not_met(self):
        rows = (("a", "b"), (0, 0), ("c", "d"), (1, 2), ("e", 2))
        self.assertEqual(text_of_rows(rows), "ecd")
        self.assertEqual(first_met(rows), [None, None, 1, None, 0])
        self.assertEqual(pins_of_rows(rows), (0, 1, 2))

    def test_the_same_text_is_not_the_same_row(self):
        rows = (("a", "b"), ("a", "b"), (1, "c", 0))
        self.assertEqual(first_met(rows), [3, 0, 0])
        self.assertEqual(pins_of_rows(rows), (0, 1, 2, 3))
        self.check(rows)

    def test_the_least_place_of_all(self):
        # Row 0 stands late in row 2 and early in row 1, which comes first or last.
        self.assertEqual(first_met((("a",), ("b", 0), ("c", "c", "c", 0), (2, 1))), [3, 4, 0, 0])
        self.assertEqual(first_met((("a",), ("b", 0), ("c", "c", "c", 0), (1, 2))), [1, 0, 2, 0])
        self.assertEqual(first_met((("a",), ("c", "c", "c", 0), ("b", 0), (2, 1, 0))), [1, 2, 0, 0])
        # A later row that names it far on, an earlier one near by.
        self.assertEqual(first_met((("a",), ("b", 0), ("c", 1, "c", 0, 1))), [2, 1, 0])

    def test_a_chain_of_sixty(self):
        self.assertEqual(text_of_rows(CHAIN), "a")
        self.assertEqual(first_met(CHAIN), [0] * 60)
        self.assertEqual(pins_of_rows(CHAIN), (0,))
        self.assertEqual(text_of_rows(GROWING), "ab" + "c" * 59)
        self.assertEqual(first_met(GROWING), [0] * 60)
        self.assertEqual(pins_of_rows(GROWING), tuple(range(60)))
        turned = (("a",),) + tuple(("b", number) for number in range(59))
        self.assertEqual(text_of_rows(turned), "b" * 59 + "a")
        self.assertEqual(first_met(turned), list(range(59, -1, -1)))
        self.assertEqual(pins_of_rows(turned), tuple(range(60)))

    def test_as_the_document_says(self):
        for rows in SOME:
            self.check(rows)
        self.assertTrue(any(None in first_met(rows) for rows in SOME))

    def test_doubled_rows(self):
        rows = DOUBLING[:9]
        self.assertEqual(text_of_rows(rows), "a" * 256)
        self.assertEqual(first_met(rows), [0] * 9)
        self.assertEqual(pins_of_rows(rows), (0, 1, 3, 7, 15, 31, 63, 127))
        self.check(rows)

    def test_long_rows(self):
        both = (("a",), (0, "b"), (1, 0))
        for number in range(2, 11):
            both += ((number, number - 1),)
        self.assertEqual(len(text_of_rows(both)), 233)
        self.check(both)
        rows = (tuple("abcdefghijkl"), tuple("mnopqrstuvwx"), (0, 1) * 6, (2, 2))
        self.assertEqual(len(text_of_rows(rows)), 288)
        self.check(rows)

    def three_hundred(self):
        """Rows of 300 signs, and of 301, the last of them alone that long."""
        tens = (("a",) * 10, (0,) * 10, ("b",), (1, 1, 1))
        return tens, (("a",) * 10, (0,) * 10, ("b",), (1, 1, 1, 2))

    def test_300_signs_and_one_more(self):
        most, more = self.three_hundred()
        self.assertEqual(text_of_rows(most), "a" * 300)
        self.assertEqual(first_met(most), [0, 0, None, 0])
        self.check(most)
        self.check_refused(more)

    def test_too_long_where_it_is_not_met(self):
        most, more = self.three_hundred()
        for rows in [more + (("c",),), more + (("c",), (4, 2)), more + ((0,),), (("z",),) + tuple(
                tuple(item if isinstance(item, str) else item + 1 for item in row) for row in more) + ((0,),)]:
            self.assertIs(is_rows(rows), True)
            self.check_refused(rows)
        self.check(most + (("c",), (4, 2)))
        self.check(most + ((3,),))

    def test_doubled_to_sixty(self):
        self.check_refused(DOUBLING)
        self.check_refused(DOUBLING[:59] + (("a",),))
        twelve = (("a",),) + tuple((number,) * 12 for number in range(59))
        self.check_refused(twelve)
        self.check_refused(DOUBLING[:10])

    def test_a_refusal_changes_nothing(self):
        _, more = self.three_hundred()
        before = copy.deepcopy(more)
        self.check_refused(more)
        self.check_refused(more)
        self.assertEqual(more, before)
        self.assertEqual(text_of_rows((("a",),)), "a")

    def test_the_list_is_the_askers(self):
        rows = (("a", "b"), ("c",), (0, 0))
        told = first_met(rows)
        told[0] = 7
        told.append(9)
        self.assertEqual(first_met(rows), [0, None, 0])
        self.assertIsNot(first_met(rows), first_met(rows))
        self.assertEqual(pins_of_rows(rows), (0, 1))

    def test_by_name(self):
        rows = (("a",), (0, "b"))
        self.assertEqual(text_of_rows(rows=rows), "ab")
        self.assertEqual(first_met(rows=rows), [0, 0])
        self.assertEqual(pins_of_rows(rows=rows), (0, 1))


if __name__ == "__main__":
    unittest.main()
