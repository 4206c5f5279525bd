"""[60], [61] and [62]: matches.py."""

import unittest

from helpers import (A, B, C, D, NO_PATTERNS, chain, chances, fillings_told, matches_told, numbered, slow_fills,
                     slow_joint, slow_matches, some_rows,
                     some_small_pattern, stands_slowly, web_behind, web_of_texts, whole, wide)
from likematch.errors import BadPattern, BadTerm, BadTerms, NoHole, TooMany
from likematch.matches import joint, matches, stands_at
from likematch.texts import read_pattern
from likematch.webs import Web

NO_TERMS = NO_PATTERNS + ("?x", ("f", "?x"), wide(31), chain(6))
FX = ("f", "?x")
FXY = ("f", "?x", "?y")


def web_of_products(more):
    """A web in which h(g(?x),k(?y)) is found 300 times, or once more."""
    web = Web()
    web.put(("h", ("g", numbered(0)), ("k", numbered(0))))
    for at in range(1, 15):
        web.like(("g", numbered(0)), ("g", numbered(at)))
    for at in range(1, 20):
        web.like(("k", numbered(at)), ("k", numbered(0)))
    if more:
        web.put(("h", ("g", numbered(19)), ("k", ("g", numbered(19)))))
    return web


def web_of_ones(heads, others):
    """A web of so many terms f(x), their x, and so many others without parts."""
    web = Web()
    for at in range(heads):
        web.put(("f", numbered(at)))
    for at in range(others):
        web.put(numbered(heads + at))
    return web


class Matches(unittest.TestCase):
    def test_an_empty_web(self):
        for pattern in ("?x", A, FX, ("f", A)):
            self.assertEqual(matches(Web(), pattern), [])

    def test_a_hole_alone_is_found_once_for_each_class(self):
        web = web_of_texts("f(b)", "a=b", "c")
        self.assertEqual(matches(web, "?x"), matches_told("a ?x=a", "c ?x=c", "f(b) ?x=f(b)"))

    def test_without_holes(self):
        web = web_of_texts("f(b)", "a=b", "g(f(b))")
        self.assertEqual(matches(web, B), [(A, ())])
        self.assertEqual(matches(web, ("f", A)), [(("f", B), ())])
        self.assertEqual(matches(web, read_pattern("g(f(a))")), matches_told("g(f(b))"))
        self.assertEqual(matches(web, C), [])
        self.assertEqual(matches(web, ("f", C)), [])
        self.assertEqual(matches(web, ("f", A, A)), [])
        self.assertEqual(matches(web, ("f",)), [])

    def test_fillings_are_told_by_least_terms(self):
        web = web_of_texts("f(c)", "c=g(a)", "c=b", "f(d)", "d=e")
        self.assertEqual(matches(web, FX), matches_told("f(c) ?x=b", "f(d) ?x=d"))

    def test_like_ways_are_found_once(self):
        web = web_of_texts("f(a)", "f(b)", "f(c)", "a=b")
        self.assertEqual(matches(web, FX), matches_told("f(a) ?x=a", "f(c) ?x=c"))
        web.like(B, C)
        self.assertEqual(matches(web, FX), matches_told("f(a) ?x=a"))

    def test_several_fillings_at_one_class(self):
        web = web_of_texts("f(a)=f(b)", "f(c)=g(a)")
        self.assertEqual(matches(web, FX), matches_told("f(a) ?x=a", "f(a) ?x=b", "f(c) ?x=c"))
        web = web_of_texts("f(a)=b", "f(c)=b")
        self.assertEqual(matches(web, FX), matches_told("b ?x=a", "b ?x=c"))

    def test_a_hole_twice(self):
        web = web_of_texts("f(a,b)", "f(b,b)", "f(c,d)", "f(g(a),g(c))")
        self.assertEqual(matches(web, ("f", "?x", "?x")), matches_told("f(b,b) ?x=b"))
        web.like(A, C)
        self.assertEqual(matches(web, ("f", "?x", "?x")), matches_told("f(b,b) ?x=b", "f(g(a),g(c)) ?x=g(a)"))
        self.assertEqual(matches(web, ("f", ("g", "?x"), ("g", "?x"))), matches_told("f(g(a),g(c)) ?x=a"))
        self.assertEqual(matches(web, ("f", ("g", "?x"), "?x")), [])
        web.like(C, ("g", C))
        self.assertEqual(matches(web, ("f", ("g", "?x"), "?x")), matches_told("f(g(a),g(c)) ?x=a"))

    def test_within_a_class_one_goes_on_by_any_of_its_terms(self):
        web = web_of_texts("f(a)", "a=g(b)", "g(c)=d", "a=d")
        self.assertEqual(matches(web, ("f", ("g", "?y"))), matches_told("f(a) ?y=b", "f(a) ?y=c"))
        web = web_of_texts("a=f(a)")
        self.assertEqual(matches(web, ("f", ("f", ("f", ("f", "?x"))))), matches_told("a ?x=a"))

    def test_order_by_term_then_by_the_filling(self):
        web = web_of_texts("f(b,a)=f(a,b)", "f(b,b)=f(a,b)", "f(aa,a)", "f(c,g(a))=c", "f(a,a)=f(a,b)")
        self.assertEqual(matches(web, FXY), matches_told(
            "c ?x=c ?y=g(a)", "f(a,a) ?x=a ?y=a", "f(a,a) ?x=a ?y=b", "f(a,a) ?x=b ?y=a", "f(a,a) ?x=b ?y=b",
            "f(aa,a) ?x=aa ?y=a"))
        self.assertEqual([filling for _, filling in matches(web, ("f", "?y", "?x"))],
                         [(("?y", x), ("?x", y)) for ((_, x), (_, y)) in [row[1] for row in matches(web, FXY)]])

    def test_heads_with_unlike_numbers_of_parts(self):
        web = web_of_texts("f(a)", "f(a,b)", "f", "f(a,b,c)")
        self.assertEqual(matches(web, FX), matches_told("f(a) ?x=a"))
        self.assertEqual(matches(web, FXY), matches_told("f(a,b) ?x=a ?y=b"))
        self.assertEqual(matches(web, ("f",)), matches_told("f"))
        self.assertEqual(len(matches(web, ("f", "?x", "?y", "?z"))), 1)

    def test_just_300_and_301(self):
        pattern = read_pattern("h(g(?x),k(?y))")
        found = matches(web_of_products(False), pattern)
        self.assertEqual(len(found), 300)
        self.assertEqual(len(set(found)), 300)
        web = web_of_products(True)
        before = whole(web)
        with self.assertRaises(TooMany):
            matches(web, pattern)
        self.assertEqual(whole(web), before)
        self.assertEqual(len(matches(web, read_pattern("h(g(?x),k(a))"))), 0)

    def test_many_holes_are_soon_too_many(self):
        web = Web()
        for at in range(1, 20):
            web.like(("g", numbered(0)), ("g", numbered(at)))
        web.like(("g", A), A)
        web.put(("f", ("g", numbered(0)), ("g", numbered(1)), ("g", numbered(2))))
        web.like(("f", ("g", numbered(0)), ("g", numbered(1)), ("g", numbered(2))), ("g", numbered(0)))
        wide_one = ("f", ("f", ("g", "?a"), ("g", "?b"), ("g", "?c")), ("f", ("g", "?d"), ("g", "?e"), ("g", "?f")))
        with self.assertRaises(TooMany):
            matches(web, wide_one + (("f", ("g", "?g"), ("g", "?h"), ("g", "?i")),))
        # Here no way at all goes on to the last part, however many there are ahead of it.
        self.assertEqual(matches(web, wide_one + (("k", "?j"),)), [])
        self.assertEqual(matches(web, wide_one + (A,)), [])

    def test_bad_pattern(self):
        for thing in NO_PATTERNS + (wide(31), chain(6)):
            with self.subTest(thing=thing), self.assertRaises(BadPattern):
                matches(web_of_texts("a"), thing)

    def test_by_name_and_nothing_is_changed(self):
        web = web_of_texts("f(a)", "a=b", "c")
        web.back()
        before = whole(web)
        found = matches(web=web, pattern=FX)
        found.append("more")
        found = joint(web=web, patterns=[FX])
        found.append("more")
        self.assertIs(stands_at(web=web, pattern=FX, term=("f", A), fill={"?x": A}), True)
        self.assertEqual(whole(web), before)
        self.assertEqual(matches(web, FX), matches_told("f(a) ?x=a"))
        self.assertEqual(joint(web, [FX]), fillings_told("?x=a"))

    def test_behind_deeds_taken_back_and_done_again_and_of_twins(self):
        web = web_of_texts("f(a)", "f(b)", "a=b", "f(c)")
        told = []
        for many in range(5):
            self.assertEqual(matches(web, FX), matches(web.twin(), FX))
            self.assertEqual(joint(web, [FX, "?y"]), joint(web.twin(), [FX, "?y"]))
            told.append((matches(web, FX), joint(web, [FX]), stands_at(web, FX, ("f", A), {"?x": B})))
            if many < 4:
                web.back()
        self.assertEqual([len(row[0]) for row in told], [2, 1, 2, 1, 0])
        self.assertEqual([row[2] for row in told], [True, True, False, False, False])
        while told:
            self.assertEqual((matches(web, FX), joint(web, [FX]), stands_at(web, FX, ("f", A), {"?x": B})), told.pop())
            if told:
                web.again()

    def test_all_ways_tried_one_by_one(self):
        chance = chances(61)
        many = 0
        for _ in range(250):
            web = web_behind(some_rows(chance, chance.randrange(1, 7)))
            for _ in range(3):
                pattern = some_small_pattern(chance)
                if len(web) > 20:
                    continue
                found = matches(web, pattern)
                self.assertEqual(found, slow_matches(web, pattern), (web.log(), pattern))
                many += len(found) > 0
        self.assertGreater(many, 150)


class StandsAt(unittest.TestCase):
    def test_at_classes(self):
        web = web_of_texts("f(a)", "a=b", "f(c)=d", "e")
        self.assertIs(stands_at(web, FX, ("f", A), {"?x": A}), True)
        self.assertIs(stands_at(web, FX, ("f", B), {"?x": B}), True)
        self.assertIs(stands_at(web, FX, D, {"?x": C}), True)
        self.assertIs(stands_at(web, FX, D, {"?x": A}), False)
        self.assertIs(stands_at(web, FX, ("e",), {"?x": A}), False)
        self.assertIs(stands_at(web, "?x", B, {"?x": A}), True)
        self.assertIs(stands_at(web, "?x", D, {"?x": A}), False)
        self.assertIs(stands_at(web, ("f", B), ("f", A), {}), True)
        self.assertIs(stands_at(web, A, B, {}), True)
        self.assertIs(stands_at(web, A, C, {}), False)

    def test_terms_that_do_not_stand_there_but_have_a_class(self):
        web = web_of_texts("f(a)", "a=b")
        self.assertIs(stands_at(web, ("f", "?x"), ("f", B), {"?x": B}), True)
        web = web_of_texts("g(f(a))", "a=b")
        self.assertIs(stands_at(web, ("g", "?x"), read_pattern("g(f(b))"), {"?x": ("f", B)}), True)

    def test_false_where_one_has_no_class(self):
        web = web_of_texts("f(a)")
        self.assertIs(stands_at(web, FX, ("f", B), {"?x": A}), False)
        self.assertIs(stands_at(web, FX, ("f", A), {"?x": B}), False)
        self.assertIs(stands_at(web, FX, ("f", B), {"?x": B}), False)
        self.assertIs(stands_at(web, "?x", B, {"?x": B}), False)
        self.assertIs(stands_at(web, FX, ("f", A), {"?x": A, "?y": B}), True)
        self.assertIs(stands_at(web, B, B, {}), False)
        self.assertIs(stands_at(Web(), A, A, {}), False)

    def test_what_else_the_fill_has_counts_for_nothing(self):
        web = web_of_texts("f(a)")
        self.assertIs(stands_at(web, FX, ("f", A), {"?x": A, "?z": None, "x": 3}), True)

    def test_refused_in_this_order(self):
        web = web_of_texts("f(a,b)")
        for thing in NO_PATTERNS:
            with self.assertRaises(BadPattern):
                stands_at(web, thing, None, {})
        for thing in NO_TERMS:
            with self.assertRaises(BadTerm):
                stands_at(web, FXY, thing, {})
            with self.assertRaises(BadTerm):
                stands_at(web, FXY, ("f", A, B), {"?x": A, "?y": thing})
        for fill, hole in (({}, "?x"), ({"?x": None}, "?y"), ({"?y": None}, "?x"), ({"?x": A}, "?y")):
            with self.assertRaises(NoHole) as caught:
                stands_at(web, FXY, ("f", A, B), fill)
            self.assertEqual(caught.exception.hole, hole)
        # What has no class is no reason for not looking at the rest.
        with self.assertRaises(NoHole):
            stands_at(web, FXY, C, {"?x": A})
        with self.assertRaises(BadTerm):
            stands_at(web, FXY, C, {"?x": C, "?y": "?x"})

    def test_a_filled_pattern_may_be_beyond_the_bounds(self):
        web = web_of_texts("a=f(a)")
        deep_one = chain(5)
        self.assertIs(stands_at(web, ("f", ("f", "?x")), deep_one, {"?x": deep_one}), True)

    def test_all_ways_tried_one_by_one(self):
        chance = chances(60)
        for _ in range(60):
            web = web_behind(some_rows(chance, chance.randrange(1, 5)))
            pattern = some_small_pattern(chance)
            for fill, filling in slow_fills(web, [pattern]):
                picked = {hole: chance.choice(row) for hole, row in fill.items()}
                for row in web.classes():
                    self.assertIs(stands_at(web, pattern, chance.choice(row), picked),
                                  stands_slowly(web, pattern, fill, row), (web.log(), pattern, filling))


class Joint(unittest.TestCase):
    def test_no_patterns_and_none_with_holes(self):
        web = web_of_texts("f(a)", "a=b")
        for patterns in ([], (), [A], [A, ("f", B)], (("f", A),)):
            self.assertEqual(joint(web, patterns), [()])
        for patterns in ([C], [A, C], [("f", C)], [("f", ("f", A))]):
            self.assertEqual(joint(web, patterns), [])
        self.assertEqual(joint(Web(), []), [()])
        self.assertEqual(joint(Web(), [A]), [])
        self.assertEqual(joint(Web(), ["?x"]), [])

    def test_one_and_several(self):
        web = web_of_texts("f(a)", "f(b)", "g(b)", "g(c)")
        self.assertEqual(joint(web, [FX]), fillings_told("?x=a", "?x=b"))
        self.assertEqual(joint(web, [FX, ("g", "?x")]), fillings_told("?x=b"))
        self.assertEqual(joint(web, [FX, ("g", "?y")]), fillings_told("?x=a ?y=b", "?x=a ?y=c", "?x=b ?y=b", "?x=b ?y=c"))
        self.assertEqual(joint(web, [("g", "?y"), FX]), fillings_told("?y=b ?x=a", "?y=b ?x=b", "?y=c ?x=a", "?y=c ?x=b"))
        self.assertEqual(joint(web, [FX, A]), fillings_told("?x=a", "?x=b"))
        self.assertEqual(joint(web, [FX, D]), [])
        self.assertEqual(joint(web, [FX, FX]), fillings_told("?x=a", "?x=b"))

    def test_holes_alone(self):
        web = web_of_texts("f(a)", "a=b", "f(c)")
        self.assertEqual(joint(web, ["?x"]), fillings_told("?x=a", "?x=c", "?x=f(a)", "?x=f(c)"))
        self.assertEqual(joint(web, ["?x", FX]), fillings_told("?x=a", "?x=c"))
        self.assertEqual(joint(web, [FX, "?x"]), fillings_told("?x=a", "?x=c"))
        self.assertEqual(joint(web, ["?x", "?x"]), joint(web, ["?x"]))
        self.assertEqual(len(joint(web, ["?x", "?y"])), 16)
        self.assertEqual(joint(web, ["?y", FX])[:3], fillings_told("?y=a ?x=a", "?y=a ?x=c", "?y=c ?x=a"))

    def test_each_filling_is_told_once_at_however_many_classes(self):
        web = web_of_texts("f(a)=f(b)", "g(f(a))=c", "g(f(b))=d")
        self.assertEqual(joint(web, [FX]), fillings_told("?x=a", "?x=b"))

    def test_just_300_and_301(self):
        found = joint(web_of_ones(10, 10), [FX, "?y"])
        self.assertEqual(len(found), 300)
        self.assertEqual(len(joint(web_of_ones(10, 10), ["?y", FX])), 300)
        for patterns in ([FX, "?y"], ["?y", FX]):
            with self.assertRaises(TooMany):
                joint(web_of_ones(7, 29), patterns)
        self.assertEqual(len(joint(web_of_ones(7, 28), [FX, "?y"])), 294)

    def test_four_holes_alone_are_soon_too_many(self):
        web = web_of_ones(20, 20)
        with self.assertRaises(TooMany):
            joint(web, ["?x", "?y", "?z", "?w"])
        self.assertEqual(joint(web, ["?x", "?y", ("g", "?z"), "?w"]), [])
        self.assertEqual(len(joint(web, ["?x", ("f", "?x")])), 20)

    def test_bad_terms(self):
        web = web_of_texts("f(a)")
        for thing in (None, True, 1, "?x", "a", {}, {"?x": A}, [A, B, C, D, A], ["?x"] * 5, [None], [FX, None], ["a"], [[]],
                      [wide(31)], [chain(6)], [("f", "?a", "?b", "?c"), ("f", "?d", "?e")], [("f", "x")],
                      ["?a", "?b", "?c", ("f", "?d", "?e")]):
            with self.subTest(thing=thing), self.assertRaises(BadTerms):
                joint(web, thing)
        for thing in NO_PATTERNS:
            with self.assertRaises(BadTerms):
                joint(web, [A, thing])
        for patterns in (["?a", "?b", "?c", "?d"], ("?a", "?b", ("f", "?c", "?d", "?a")), (("f", "?a"), ("g", "?a"))):
            joint(web, patterns)

    def test_a_tuple_is_not_taken_for_a_list_of_its_parts(self):
        with self.assertRaises(BadTerms):
            joint(web_of_texts("a"), ("f", A))
        self.assertEqual(joint(web_of_texts("a"), (A, "?x")), fillings_told("?x=a"))

    def test_all_ways_tried_one_by_one(self):
        chance = chances(62)
        many = 0
        for _ in range(250):
            web = web_behind(some_rows(chance, chance.randrange(1, 5)))
            patterns = [some_small_pattern(chance, 2) for _ in range(chance.randrange(4))]
            if len(web) > 14:
                continue
            found = joint(web, patterns)
            self.assertEqual(found, slow_joint(web, patterns), (web.log(), patterns))
            many += len(found) > 0
        self.assertGreater(many, 80)

    def test_all_ways_tried_with_three_holes(self):
        chance = chances(63)
        for _ in range(80):
            web = web_behind([("like", chance.choice((A, B, C)), chance.choice((A, B, C, ("f", A)))),
                              ("put", ("f", chance.choice((A, B)))), ("put", ("f", B, ("g", A))), ("put", ("g", C))])
            patterns = [some_small_pattern(chance, 2, ("?x", "?y", "?z")) for _ in range(chance.randrange(1, 4))]
            slow = slow_joint(web, patterns)
            if len(slow) <= 300:
                self.assertEqual(joint(web, patterns), slow, (web.log(), patterns))
            else:
                with self.assertRaises(TooMany):
                    joint(web, patterns)


if __name__ == "__main__":
    unittest.main()
