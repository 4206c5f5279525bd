"""[10], [11] and lesser of [12]: terms.py."""

import unittest

from helpers import A, B, NO_PATTERNS, chain, chances, count, rank, some_pattern, some_term, text_of, wide
from likematch.errors import BadPattern, BadTerm, NoHole, TooGreat
from likematch.terms import deep_of, filled, holes_of, is_pattern, is_term, lesser, size_of


class WhatIsATerm(unittest.TestCase):
    def check(self, thing, term, pattern):
        # What fails isn't shown: some of these things are deeper than Python can show.
        self.assertIs(is_term(thing), term)
        self.assertIs(is_pattern(thing), pattern)

    def test_names(self):
        for name in ("a", "z", "abcdefgh", "zzzzzzzz", "az"):
            self.check((name,), True, True)
        for name in ("", "abcdefghi", "a" * 4000, "A", "aB", "a1", "a_", " a", "a ", "a\n", "\n", "\t", "?", "?x", "a?",
                     "(", "a(", ",", "`", "{"):
            self.check((name,), False, False)

    def test_holes(self):
        for hole in ("?x", "?abcd", "?z", "?az"):
            self.check(hole, False, True)
            self.check(("f", hole), False, True)
        for hole in ("?", "?abcde", "?" + "a" * 3999, "?X", "?x1", "?x ", "? x", "??", "?x?", "x", "xy?", "?x\n", "abcd"):
            self.check(hole, False, False)
            self.check(("f", hole), False, False)

    def test_a_hole_is_no_head(self):
        self.check(("?x",), False, False)
        self.check(("?x", A), False, False)

    def test_numbers_of_parts(self):
        for many in (0, 1, 2, 3):
            self.check(("f",) + (A,) * many, True, True)
            self.check(("f",) + ("?x",) * many, many == 0, True)
        for many in (4, 5, 1000):
            self.check(("f",) + (A,) * many, False, False)
            self.check(("f",) + ("?x",) * many, False, False)
        self.check((), False, False)

    def test_size(self):
        for size in range(2, 31):
            self.assertEqual(count(wide(size)), size)
            self.check(wide(size), True, True)
        self.assertEqual(count(wide(31)), 31)
        self.check(wide(31), False, False)

    def test_size_counts_what_stands_there_again(self):
        part = ("g", B, B, B)
        self.check(("f", ("g", part, part), ("g", part, part), ("g", part, part)), True, True)
        self.check(("f", ("g", part, part), ("g", part, part), ("g", part, part, A)), True, True)
        self.check(("f", ("g", part, part), ("g", part, part), ("g", part, part, ("h", A))), True, True)
        self.check(("f", ("g", part, part), ("g", part, part), ("g", part, part, ("h", A, A))), False, False)

    def test_size_counts_holes(self):
        three = ("g", "?x", "?x", "?x")
        nine = ("f", three, three)
        self.check(("f", nine, nine, nine), False, True)
        self.check(("f", nine, nine, ("f", three, three, "?x")), False, True)
        self.check(("f", nine, nine, ("f", three, three, ("g", "?x"))), False, True)
        self.check(("f", nine, nine, ("f", three, three, ("g", "?x", "?x"))), False, False)

    def test_depth(self):
        self.check(chain(5), True, True)
        self.check(chain(6), False, False)
        self.check(chain(5, "?x"), False, True)
        self.check(chain(6, "?x"), False, False)
        self.check(("f", A, chain(4)), True, True)
        self.check(("f", A, chain(5)), False, False)

    def test_what_is_none_at_whatever_depth_or_width(self):
        self.check(chain(20000), False, False)
        shared = A
        for _ in range(60):
            shared = ("f", shared, shared, shared)
        self.check(shared, False, False)
        ring = []
        ring.append(ring)
        self.check(("f", ring), False, False)

    def test_of_anything(self):
        for thing in NO_PATTERNS:
            self.check(thing, False, False)
            self.check([thing], False, False)
            self.check(("f", thing), False, False)

    def test_a_list_in_a_tuples_place(self):
        self.check(["a"], False, False)
        self.check(["f", A], False, False)
        self.check(("f", ["a"]), False, False)
        self.check(("f", ("g", ["a"])), False, False)

    def test_by_name(self):
        self.assertIs(is_term(thing=A), True)
        self.assertIs(is_pattern(thing="?x"), True)


class SizesAndDepths(unittest.TestCase):
    def test_size(self):
        self.assertEqual(size_of("?x"), 1)
        self.assertEqual(size_of(A), 1)
        self.assertEqual(size_of(("f", A, "?x")), 3)
        self.assertEqual(size_of(("f", A, A, ("g", A))), 5)
        self.assertEqual(size_of(wide(30)), 30)

    def test_depth(self):
        self.assertEqual(deep_of("?x"), 1)
        self.assertEqual(deep_of(A), 1)
        self.assertEqual(deep_of(("f", "?x")), 2)
        self.assertEqual(deep_of(("f", A, ("g", ("g", A)), A)), 4)
        self.assertEqual(deep_of(chain(5)), 5)

    def test_by_name(self):
        self.assertEqual(size_of(pattern=A), 1)
        self.assertEqual(deep_of(pattern=A), 1)

    def test_refused(self):
        for thing in NO_PATTERNS + (wide(31), chain(6)):
            for asked in (size_of, deep_of, holes_of):
                with self.subTest(asked=asked.__name__, thing=thing), self.assertRaises(BadPattern):
                    asked(thing)


class Holes(unittest.TestCase):
    def test_in_the_order_in_which_they_first_stand(self):
        self.assertEqual(holes_of("?x"), ["?x"])
        self.assertEqual(holes_of(A), [])
        self.assertEqual(holes_of(("f", "?y", "?x", "?y")), ["?y", "?x"])
        self.assertEqual(holes_of(("f", ("g", ("g", "?z"), "?a"), "?b", ("g", "?a", "?c"))), ["?z", "?a", "?b", "?c"])

    def test_told_is_a_new_list(self):
        pattern = ("f", "?x")
        holes_of(pattern).append("?y")
        self.assertEqual(holes_of(pattern), ["?x"])
        self.assertEqual(holes_of(pattern=pattern), ["?x"])


class Filling(unittest.TestCase):
    def test_each_hole_is_exchanged(self):
        self.assertEqual(filled(("f", "?x", ("g", "?y", "?x")), {"?x": A, "?y": ("g", B)}), ("f", A, ("g", ("g", B), A)))
        self.assertEqual(filled("?x", {"?x": ("g", B)}), ("g", B))
        self.assertEqual(filled(("f", A), {}), ("f", A))

    def test_what_a_fill_has_more_counts_for_nothing(self):
        fill = {"?x": A, "?y": None, "y": 5, 7: [], "?abcde": ()}
        self.assertEqual(filled(("f", "?x"), fill), ("f", A))
        self.assertEqual(filled(B, fill), B)

    def test_the_fill_is_as_it_was(self):
        fill = {"?x": A, "?y": B}
        filled(("f", "?y", "?x"), fill)
        self.assertEqual(list(fill.items()), [("?x", A), ("?y", B)])
        with self.assertRaises(NoHole):
            filled(("f", "?z"), fill)
        self.assertEqual(list(fill.items()), [("?x", A), ("?y", B)])

    def test_by_name(self):
        self.assertEqual(filled(pattern="?x", fill={"?x": A}), A)

    def test_bad_pattern_comes_first(self):
        for thing in NO_PATTERNS + (("f", "?x", None), wide(31), chain(6, "?x")):
            with self.subTest(thing=thing), self.assertRaises(BadPattern):
                filled(thing, {"?x": None})

    def test_the_first_hole_that_is_lacked(self):
        for pattern, fill, hole in (("?x", {}, "?x"), (("f", "?x", "?y"), {"?y": A}, "?x"),
                                    (("f", "?x", "?y", "?z"), {"?x": A}, "?y"),
                                    (("f", ("g", "?z"), "?a"), {}, "?z")):
            with self.subTest(pattern=pattern), self.assertRaises(NoHole) as caught:
                filled(pattern, fill)
            self.assertEqual(caught.exception.hole, hole)

    def test_no_hole_comes_ahead_of_bad_term(self):
        with self.assertRaises(NoHole) as caught:
            filled(("f", "?x", "?y"), {"?x": None})
        self.assertEqual(caught.exception.hole, "?y")

    def test_bad_term_of_one_that_is_needed(self):
        for thing in NO_PATTERNS + ("?x", ("f", "?x"), wide(31), chain(6)):
            with self.subTest(thing=thing), self.assertRaises(BadTerm):
                filled(("f", "?x", "?y"), {"?x": A, "?y": thing})

    def test_bad_term_comes_ahead_of_too_great(self):
        with self.assertRaises(BadTerm):
            filled(("f", "?x", "?y"), {"?x": chain(5), "?y": ["a"]})
        with self.assertRaises(BadTerm):
            filled(("f", "?x", "?x", "?x"), {"?x": wide(31)})

    def test_too_great_just_beyond_the_bounds(self):
        self.assertEqual(filled(("f", "?x"), {"?x": chain(4)}), chain(5))
        with self.assertRaises(TooGreat):
            filled(("f", "?x"), {"?x": chain(5)})
        self.assertEqual(count(filled(("f", "?x", A), {"?x": wide(28)})), 30)
        with self.assertRaises(TooGreat):
            filled(("f", "?x", A), {"?x": wide(29)})
        with self.assertRaises(TooGreat):
            filled(("f", "?x", "?x", "?x"), {"?x": wide(10)})

    def test_a_fill_that_stands_often(self):
        part = ("g", "?x", "?x", "?x")
        with self.assertRaises(TooGreat):
            filled(("f", part, part, part), {"?x": wide(30)})


class Order(unittest.TestCase):
    def test_by_size_then_by_text(self):
        rising = ["?x", "?xa", A, ("aa",), B, ("f", "?x"), ("f", A), ("g", "?x"), ("a", A, A), ("a", B, A),
                  ("f", ("f", A)), ("aa", A, A, A)]
        self.assertEqual(rising, sorted(rising, key=rank))
        for at, one in enumerate(rising):
            for place, other in enumerate(rising):
                with self.subTest(one=one, other=other):
                    self.assertIs(lesser(one, other), at < place)

    def test_text_decides_as_python_has_it(self):
        # "f(a,b)" and "fa(a,b)": the bracket comes ahead of letters.
        self.assertIs(lesser(("f", A, B), ("fa", A, B)), True)
        self.assertIs(lesser(("f", ("a", B)), ("f", A, B)), True)
        self.assertIs(lesser(("f", A, B), ("f", ("a", B))), False)

    def test_of_many(self):
        chance = chances(12)
        for _ in range(300):
            one = some_pattern(chance)
            other = some_pattern(chance)
            if count(one) <= 30 and count(other) <= 30:
                self.assertIs(lesser(one, other), rank(one) < rank(other), (one, other))
                self.assertEqual(size_of(one), count(one))

    def test_by_name_and_with_itself(self):
        self.assertIs(lesser(one=A, other=B), True)
        self.assertIs(lesser(A, A), False)

    def test_refused(self):
        for thing in NO_PATTERNS + (wide(31), chain(6)):
            with self.subTest(thing=thing):
                with self.assertRaises(BadPattern):
                    lesser(thing, A)
                with self.assertRaises(BadPattern):
                    lesser(A, thing)
                with self.assertRaises(BadPattern):
                    lesser(thing, thing)


class TheHelpers(unittest.TestCase):
    def test_some_terms_are_terms(self):
        chance = chances(3)
        for _ in range(50):
            self.assertTrue(is_term(some_term(chance)))
        self.assertEqual(text_of(("f", A, ("g", "?x"))), "f(a,g(?x))")


if __name__ == "__main__":
    unittest.main()
