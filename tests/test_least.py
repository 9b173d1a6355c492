import copy
import unittest

import plain
from plain import all_texts, fibonacci, nested, scrambled
from touchpin.errors import TooMany
from touchpin.least import least, shows_missing

GREAT = 10 ** 59
LETTERS = "abcdefghijklmnopqrstuvwxyz"
SMALL = ["a", "aa", "ab", "aba", "abc", "abab", "aabb", "abba", "abcab", "aabab", "abcba"]
TWELVE = [
    "aaaaaaaaaaaa", "abcdefghijkl", "zyxwvutsrqpo", "abcdefabcdef", "abcdeffedcba", "abcabcabcabc", "aabbaabbaabb",
    "aabbccddeeff", "abababababab", "aaaaaabaaaaa", "aaaaabaaaaab", "aaabbabaabbb", "caacbacabaab", "mississippia"]


def lists_in(tree):
    """All lists of a tree."""
    return [tree[1]] + [found for _, below in tree[1] for found in lists_in(below)]


def tree_by(choose, text, m, put=()):
    """A tree for m pins with pieces chosen otherwise, or None where some m pins hold."""
    missed = [piece for piece in plain.pieces(text) if not plain.touches(text, put, piece)]
    if not missed:
        return None
    piece = choose(missed)
    if len(put) == m:
        return piece, []
    branches = [(place, tree_by(choose, text, m, put + (place,))) for place in plain.touch_places(text, piece)]
    return None if any(below is None for _, below in branches) else (piece, branches)


def changed(tree, change, put=()):
    """The tree with one node put otherwise, for each node and each thing that change tells of it."""
    yield from change(tree, put)
    piece, branches = tree
    for at, (place, below) in enumerate(branches):
        for other in changed(below, change, put + (place,)):
            yield piece, branches[:at] + [(place, other)] + branches[at + 1:]


def with_branch(node, at, *things):
    return node[0], node[1][:at] + list(things) + node[1][at + 1:]


class Least(unittest.TestCase):
    def check(self, text):
        told = least(text)
        self.assertIs(type(told), tuple, text)
        number, pins, tree = told
        self.assertEqual(number, plain.least_number(text), text)
        self.assertIs(type(number), int, text)
        self.assertIs(type(pins), tuple, text)
        self.assertEqual(list(pins), sorted(set(pins) & set(range(len(text)))), text)
        self.assertEqual(len(pins), number, text)
        self.assertIs(plain.first_missed(text, pins), None, text)
        if number == 0:
            self.assertIs(tree, None)
        else:
            self.assertTrue(plain.is_tree(text, number - 1, tree), text)
            self.assertIs(shows_missing(text, number - 1, tree), True, text)

    def test_no_signs(self):
        self.assertEqual(least(""), (0, (), None))

    def test_small_texts(self):
        for text in all_texts("ab", 7) + all_texts("abc", 5) + all_texts("azmq", 4):
            self.check(text)

    def test_none_to_twelve_signs(self):
        for many in range(13):
            for text in ["a" * many, LETTERS[:many], LETTERS[::-1][:many], fibonacci(many)]:
                self.check(text)
            for letters in ["ab", "abc", LETTERS]:
                self.check(scrambled(letters, many))

    def test_twelve_signs(self):
        for text in TWELVE:
            self.check(text)

    def test_signs_all_alike(self):
        for many in range(1, 13):
            number, _, tree = least("z" * many)
            self.assertEqual(number, 1)
            self.assertEqual(tree[1], [])

    def test_signs_all_unlike(self):
        for many in range(1, 13):
            number, pins, _ = least(LETTERS[:many])
            self.assertEqual((number, pins), (many, tuple(range(many))))

    def test_halves(self):
        for half in ["abcdef", "aabbab", "abcabd", "ab", "a"]:
            self.check(half + half)
            self.check(half + half[::-1])
        self.assertEqual(least("abcdef" * 2)[0], 6)
        self.assertEqual(least("abcdeffedcba")[0], 6)

    def test_more_signs_are_refused(self):
        for text in ["a" * 13, LETTERS[:13], "a" * 12 + "b", LETTERS, "a" * 300, scrambled("abc", 300)]:
            with self.assertRaises(TooMany) as caught:
                least(text)
            self.assertIs(type(caught.exception), TooMany)

    def test_the_lists_are_the_askers(self):
        for text in ["a", "abab", "abcdef", "abcdefabcdef"]:
            told = least(text)
            before = copy.deepcopy(told)
            lists = lists_in(told[2])
            self.assertEqual(len({id(found) for found in lists}), len(lists))
            for found in lists:
                found.append(9)
            self.assertEqual(least(text), before)
            for found in lists:
                found.clear()
            self.assertEqual(least(text), before)
            self.assertIs(shows_missing(text, before[0] - 1, before[2]), True)

    def test_by_name(self):
        self.assertEqual(least(text="ab")[:2], (2, (0, 1)))
        with self.assertRaises(TooMany):
            least(text="a" * 13)


class ShowsMissing(unittest.TestCase):
    def test_written_out(self):
        leaf = ("a", [])
        self.assertIs(shows_missing("a", 0, ("a", [])), True)
        self.assertIs(shows_missing("ab", 1, ("b", [(1, leaf)])), True)
        self.assertIs(shows_missing("ab", 1, ("ab", [(0, ("b", [])), (1, leaf)])), True)
        self.assertIs(shows_missing("ab", 1, ("ab", [(0, leaf), (1, leaf)])), False)
        self.assertIs(shows_missing("aba", 1, ("a", [(0, ("b", [])), (2, ("b", []))])), True)
        self.assertIs(shows_missing("aba", 1, ("a", [(0, ("ba", [])), (2, ("ab", []))])), True)
        self.assertIs(shows_missing("aba", 1, ("a", [(0, ("ab", [])), (2, ("b", []))])), False)

    def test_told_by_least(self):
        for text in all_texts("ab", 6) + all_texts("abc", 4) + TWELVE:
            number, _, tree = least(text)
            for m in range(13):
                self.assertIs(shows_missing(text, m, tree), m == number - 1, (text, m))

    def test_of_another_text(self):
        tree = ("b", [(1, ("a", []))])
        self.assertIs(shows_missing("ab", 1, tree), True)
        self.assertIs(shows_missing("abc", 1, tree), True)
        for text in ["", "a", "b", "cd", "ba", "abb", "bab", "cbd"]:
            self.assertIs(shows_missing(text, 1, tree), False, text)

    def test_no_pins(self):
        for text in all_texts("ab", 4) + ["abcdefghijkl", "mississippia"]:
            for piece in plain.pieces(text):
                self.assertIs(shows_missing(text, 0, (piece, [])), True)
                self.assertIs(shows_missing(text, 1, (piece, [])), False)
                self.assertIs(shows_missing(text, 12, (piece, [])), False)
                self.assertIs(shows_missing(text, 0, (piece + text, [])), False)
            self.assertIs(shows_missing(text, 0, ("", [])), False)
            self.assertIs(shows_missing(text, 0, ("c" + text, [])), False)

    def test_the_text_without_signs_has_no_tree(self):
        for m in range(13):
            for thing in [None, (), [], ("", []), ("a", []), ("", [(0, ("", []))]), (None, [])]:
                self.assertIs(shows_missing("", m, thing), False)

    def test_put_together_otherwise(self):
        longest = lambda missed: missed[-1]
        shortest = lambda missed: missed[0]
        middle = lambda missed: missed[len(missed) // 2]
        for text in all_texts("ab", 5) + all_texts("abc", 4) + ["abcde", "abcabc", "aabbab"]:
            number = plain.least_number(text)
            for choose in (longest, shortest, middle):
                for m in range(number):
                    tree = tree_by(choose, text, m)
                    self.assertTrue(plain.is_tree(text, m, tree), (text, m))
                    for other in range(13):
                        self.assertIs(shows_missing(text, other, tree), other == m, (text, m, other))
                self.assertIs(tree_by(choose, text, number), None)

    def test_twelve_signs_put_together_otherwise(self):
        for text in TWELVE:
            m = least(text)[0] - 1
            self.assertIs(shows_missing(text, m, tree_by(lambda missed: missed[0], text, m)), True, text)

    def check_changed(self, change):
        seen = 0
        for text in SMALL:
            for m in range(plain.least_number(text)):
                for tree in (tree_by(min, text, m), tree_by(max, text, m)):
                    for thing in changed(tree, lambda node, put: change(text, m, node, put)):
                        self.assertFalse(plain.is_tree(text, m, thing), (text, m, thing))
                        self.assertIs(shows_missing(text, m, thing), False, (text, m, thing))
                        seen += 1
        self.assertGreater(seen, 10)

    def test_branches_left_out_twice_and_out_of_order(self):
        def change(_text, _m, node, _put):
            piece, branches = node
            for at in range(len(branches)):
                yield with_branch(node, at)
                yield with_branch(node, at, branches[at], branches[at])
                yield piece, branches + [branches[at]]
                yield piece, branches[:at]
            if len(branches) > 1:
                yield piece, branches[::-1]
                yield piece, branches[1:] + branches[:1]
        self.check_changed(change)

    def test_other_places(self):
        def change(text, _m, node, _put):
            for at, (place, below) in enumerate(node[1]):
                others = [place + 1, place - 1, place - len(text), place + GREAT, -GREAT, None, str(place), (place,)]
                for other in others + [[place], place == 1, True, False]:
                    yield with_branch(node, at, (other, below))
        self.check_changed(change)

    def test_a_truth_for_a_place(self):
        self.assertIs(shows_missing("ab", 1, ("a", [(0, ("b", []))])), True)
        self.assertIs(shows_missing("ab", 1, ("a", [(False, ("b", []))])), False)
        self.assertIs(shows_missing("ab", 1, ("b", [(1, ("a", []))])), True)
        self.assertIs(shows_missing("ab", 1, ("b", [(True, ("a", []))])), False)

    def test_other_pieces(self):
        def change(text, m, node, put):
            piece, branches = node
            for other in plain.pieces(text):
                if plain.touches(text, put, other):
                    yield other, branches
                elif len(put) < m and plain.touch_places(text, other) != plain.touch_places(text, piece):
                    yield other, branches
        self.check_changed(change)

    def test_pieces_that_stand_nowhere_or_are_no_texts(self):
        def change(text, _m, node, _put):
            piece, branches = node
            for other in ["", "z", piece + "z", text + "a", piece.upper(), " " + piece, "\n", "aaaa"]:
                yield other, branches
            for other in [None, 0, 1, True, False, GREAT, (piece,), [piece], list(piece), tuple(piece), (), []]:
                yield other, branches
        self.check_changed(change)

    def test_lists_and_tuples_for_one_another(self):
        def change(_text, _m, node, _put):
            piece, branches = node
            yield [piece, branches]
            yield piece, tuple(branches)
            yield [piece, tuple(branches)]
            for at, branch in enumerate(branches):
                yield with_branch(node, at, list(branch))
        self.check_changed(change)

    def test_branches_of_other_lengths(self):
        def change(_text, _m, node, _put):
            piece, branches = node
            for thing in [(), (piece,), (branches,), (piece, branches, branches), (piece, branches, None)]:
                yield thing
            yield branches, piece
            for at, (place, below) in enumerate(branches):
                for thing in [(), (place,), (below,), (place, below, below), (place, below, None), (below, place)]:
                    yield with_branch(node, at, thing)
                yield with_branch(node, at, place, below)
        self.check_changed(change)

    def test_other_things_at_each_place_of_a_tree(self):
        things = [None, 0, 1, -1, GREAT, True, False, "", "a", "ab", (), ((),), [[]], {}, (None, None), ("a", None)]
        things += [nested(tuple, "a", 30), nested(list, "a", 30)]

        def change(_text, _m, node, _put):
            piece, branches = node
            yield from things
            for thing in things:
                yield piece, thing
                for at, (place, _) in enumerate(branches):
                    yield with_branch(node, at, thing)
                    yield with_branch(node, at, (place, thing))
        self.check_changed(change)

    def test_branches_where_all_pins_are_put_and_none_where_not(self):
        def change(text, m, node, put):
            if len(put) < m:
                yield node[0], []
            else:
                yield node[0], [(place, ("a", [])) for place in plain.touch_places(text, node[0])]
                for thing in (None, (), [], 0, node, (0, node)):
                    yield node[0], [thing]
        self.check_changed(change)

    def test_anything(self):
        things = [None, True, False, 0, 1, -1, GREAT, -GREAT, "", "a", "ab", "a[]", (), [], ((), ()), [[], []], ((),)]
        for depth in range(1, 39):
            for core in [0, "a", None, (), [], ("a", [])]:
                things += [nested(tuple, core, depth), nested(list, core, depth)]
        chain = "a"
        for _ in range(20):
            chain = ("a", [chain])
            things.append(chain)
        for thing in things:
            for m in range(13):
                for text in ("", "a", "ab", "abcdefghijkl"):
                    self.assertIs(shows_missing(text, m, thing), False, (text, m, thing))

    def test_what_is_handed_in_stays(self):
        things = [least("abcab")[2], ("a", [(0, ("b", [[1]]))]), ["a", []], ("a", [[0, ("b", [])]]), [[["a"]]]]
        for thing in things:
            before = copy.deepcopy(thing)
            for m in range(13):
                shows_missing("abcab", m, thing)
            self.assertEqual(thing, before)

    def test_what_is_done_behind_a_call_changes_nothing(self):
        tree = ("a", [(0, ("b", []))])
        self.assertIs(shows_missing("ab", 1, tree), True)
        tree[1].clear()
        self.assertIs(shows_missing("ab", 1, tree), False)
        tree[1].append((0, ("b", [])))
        self.assertIs(shows_missing("ab", 1, tree), True)

    def test_by_name(self):
        self.assertIs(shows_missing(thing=("a", []), m=0, text="ab"), True)
        self.assertIs(shows_missing(m=1, text="ab", thing=("a", [])), False)


if __name__ == "__main__":
    unittest.main()
