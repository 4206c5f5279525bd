"""[12]: texts.py."""

import itertools
import unittest

from helpers import A, B, NO_PATTERNS, chain, chances, count, some_pattern, text_of, wide
from likematch.errors import BadPattern, NoText
from likematch.texts import pattern_text, read_pattern

SIGNS = "a?(), "


def texts_by_length(longest):
    """All texts of patterns over a and SIGNS, by their length, but of any number of parts."""
    bare = [set() for _ in range(longest + 1)]  # without blanks around
    loose = [set() for _ in range(longest + 1)]  # with blanks around
    rows = [set() for _ in range(longest + 1)]  # parts with commas between
    for length in range(1, longest + 1):
        if length <= 8:
            bare[length].add("a" * length)
        if 2 <= length <= 5:
            bare[length].add("?" + "a" * (length - 1))
        for head in range(1, 9):
            for blanks in range(0, length):
                inner = length - head - blanks - 2
                if inner >= 1:
                    bare[length] |= {"a" * head + " " * blanks + "(" + row + ")" for row in rows[inner]}
        for ahead in range(length):
            for behind in range(length - ahead):
                loose[length] |= {" " * ahead + text + " " * behind for text in bare[length - ahead - behind]}
        rows[length] |= loose[length]
        for first in range(1, length - 1):
            rows[length] |= {one + "," + more for one in loose[first] for more in rows[length - first - 1]}
    return loose


class Writing(unittest.TestCase):
    def test_texts(self):
        for pattern, text in (("?x", "?x"), (A, "a"), (("f", A, ("g", "?x")), "f(a,g(?x))"),
                              (("f", A, B, "?abcd"), "f(a,b,?abcd)"), (("abcdefgh",), "abcdefgh"),
                              (chain(5), "f(f(f(f(a))))")):
            with self.subTest(text):
                self.assertEqual(pattern_text(pattern), text)
                self.assertEqual(pattern_text(pattern=pattern), text)
                self.assertEqual(read_pattern(text), pattern)

    def test_refused(self):
        for thing in NO_PATTERNS + (wide(31), chain(6)):
            with self.subTest(thing=thing), self.assertRaises(BadPattern):
                pattern_text(thing)


class Reading(unittest.TestCase):
    def refused(self, text, at):
        with self.subTest(repr(text)[:60]):
            with self.assertRaises(NoText) as caught:
                read_pattern(text)
            self.assertEqual(caught.exception.at, at)

    def test_by_name(self):
        self.assertEqual(read_pattern(text="f(?x)"), ("f", "?x"))

    def test_texts_lead_to_the_same_again(self):
        chance = chances(5)
        for _ in range(300):
            pattern = some_pattern(chance)
            if count(pattern) <= 30:
                self.assertEqual(pattern_text(pattern), text_of(pattern))
                self.assertEqual(read_pattern(pattern_text(pattern)), pattern)

    def test_blanks_at_every_place(self):
        signs = ["f", "(", "a", ",", "g", "(", "?x", ")", ",", "?abcd", ")"]
        pattern = ("f", A, ("g", "?x"), "?abcd")
        for at in range(len(signs) + 1):
            for many in (1, 2, 7):
                text = "".join(signs[:at]) + " " * many + "".join(signs[at:])
                with self.subTest(text):
                    self.assertEqual(read_pattern(text), pattern)
        self.assertEqual(read_pattern("  " + "  ".join(signs) + "  "), pattern)
        self.assertEqual(read_pattern(" a "), A)
        self.assertEqual(read_pattern("  ?x  "), "?x")

    def test_no_blanks_within_names_and_holes(self):
        self.refused("a b", 2)
        self.refused("f(a b)", 4)
        self.refused("? x", 1)
        self.refused("?x y", 3)
        self.refused("f(? x)", 3)
        self.refused("?x  ?y", 4)
        self.refused("a ?x", 2)

    def test_blanks_are_the_only_ones(self):
        self.refused("\ta", 0)
        self.refused("a\n", 1)
        self.refused("f(\ta)", 2)
        self.refused("f(a,\nb)", 4)

    def test_lengths_of_names_and_holes(self):
        self.assertEqual(read_pattern("abcdefgh"), ("abcdefgh",))
        self.assertEqual(read_pattern("?abcd"), "?abcd")
        self.refused("abcdefghi", 8)
        self.refused("abcdefghi(", 8)
        self.refused("f(abcdefghi", 10)
        self.refused("?abcde", 5)
        self.refused(" f( ?abcde)", 9)
        self.refused("a" * 4000, 8)
        self.refused("?" + "a" * 3999, 5)

    def test_numbers_of_parts(self):
        self.assertEqual(read_pattern("f(a,b,c)"), ("f", A, B, ("c",)))
        self.refused("f(a,b,c,d)", 7)
        self.refused("f(a,b,c ,", 8)
        self.refused("f(a,b,g(a),", 10)
        self.refused("f()", 2)
        self.refused("f( )", 3)
        self.refused("f(a,)", 4)
        self.refused("f(,a)", 2)
        self.refused("f(a,,b)", 4)
        self.assertEqual(read_pattern("f(g(a,b,c),g(a,b,c),?x)"),
                         ("f", ("g", A, B, ("c",)), ("g", A, B, ("c",)), "?x"))
        self.refused("f(g(a,b,c),g(a,b,c),?x,", 22)

    def test_the_first_sign_with_which_none_begins(self):
        for text, at in ((")", 0), ("(", 0), (",", 0), ("A", 0), ("1", 0), ("!", 0), ("aB", 1), ("a1", 1), ("a?", 1),
                         ("?1", 1), ("??", 1), ("?(", 1), ("?)", 1), ("?x(", 2), ("?x (a)", 3), ("?x)", 2), ("?x,", 2),
                         ("?x?", 2), ("a)", 1), ("a,b", 1), ("f(a))", 4), ("f(a),", 4), ("f(a)b", 4), ("f(a)(b)", 4),
                         ("f(a) b", 5), ("f((a))", 2), ("f(a(b)c)", 6), ("f(a.b)", 3), ("  f(a;", 5), ("f(?)", 3),
                         ("f(?,a)", 3), ("f(a)?x", 4), ("f[a]", 1), ("a()", 2)):
            self.refused(text, at)

    def test_the_beginning_of_a_text(self):
        for text in ("", " ", "    ", "?", " ?", "f(", "f( ", "f(a", "f(a ", "f(a,", "f(a, ", "f(a,b,c", "f(?", "f(?x",
                     "f(g(a)", "f(g(a,", "f (", "f(a,g(?x)", "f(" * 1500, "f(a," * 900):
            self.refused(text, len(text))

    def test_beyond_the_bounds(self):
        for pattern in (wide(30), chain(5), chain(5, "?x")):
            self.assertEqual(read_pattern(text_of(pattern)), pattern)
        for pattern in (wide(31), chain(6), chain(6, "?x"), chain(40)):
            text = text_of(pattern)
            self.refused(text, len(text))
            self.refused(" " + text + "  ", len(text) + 3)

    def test_signs_come_ahead_of_the_bounds(self):
        text = text_of(wide(31))
        self.refused(text + ")", len(text))
        self.refused(text + " a", len(text) + 1)
        text = text_of(chain(6))
        self.refused(text[:-1] + "!", len(text) - 1)

    def test_very_deep_and_very_wide_ones(self):
        deep = "f(" * 1333 + "a" + ")" * 1333
        self.refused(deep, len(deep))
        self.refused(deep + ")", len(deep))
        self.refused(deep[:-1] + "!", len(deep) - 1)
        text = "a"
        while 3 * len(text) + 5 <= 4000:
            text = f"f({text},{text},{text})"
        self.refused(text, len(text))

    def test_of_what_is_no_text(self):
        for thing in (None, True, False, 0, 5, [], ["a"], ("a",), (), {}, {"a": 1}, ["f", "(", "a", ")"]):
            self.refused(thing, 0)

    def test_all_short_texts_against_a_list_of_all_that_there_are(self):
        known = texts_by_length(9)
        right = set().union(*known)
        begun = {text[:length] for text in right for length in range(len(text) + 1)}
        for length in range(6):
            for signs in itertools.product(SIGNS, repeat=length):
                text = "".join(signs)
                if text in right:
                    self.assertEqual(text_of(read_pattern(text)), text.replace(" ", ""))
                    continue
                places = [at for at in range(length) if text[:at + 1] not in begun]
                with self.assertRaises(NoText, msg=repr(text)) as caught:
                    read_pattern(text)
                self.assertEqual(caught.exception.at, places[0] if places else length, repr(text))


if __name__ == "__main__":
    unittest.main()
