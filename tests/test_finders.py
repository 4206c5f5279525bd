"""[70]: finders.py."""

import unittest

from helpers import (A, B, C, NO_PATTERNS, chain, chances, fillings_told, like_fillings, numbered, slow_joint,
                     some_small_pattern, some_term, web_behind, web_of_texts, whole, wide)
from likematch.errors import BadTerms, NoDeed, TooMany
from likematch.finders import Finder
from likematch.matches import joint
from likematch.webs import Web

FX = ("f", "?x")


class SlowFinder:
    """What a finder tells, by the words of the document."""

    def __init__(self, web, patterns):
        self.web = web
        self.patterns = patterns
        self.fillings = []

    def is_like_one(self, filling, others):
        return any(like_fillings(self.web, filling, other) for other in others)

    def new(self):
        found = [one for one in slow_joint(self.web, self.patterns) if not self.is_like_one(one, self.fillings)]
        self.fillings += found
        return found

    def gone(self):
        now = slow_joint(self.web, self.patterns)
        return [one for one in self.fillings if not self.is_like_one(one, now)]


class Finding(unittest.TestCase):
    def test_new_ones_as_terms_come(self):
        web = Web()
        finder = Finder(web, [FX])
        self.assertEqual(finder.new(), [])
        web.put(("f", B))
        web.put(("f", A))
        self.assertEqual(finder.new(), fillings_told("?x=a", "?x=b"))
        self.assertEqual(finder.new(), [])
        web.put(("f", ("f", C)))
        self.assertEqual(finder.new(), fillings_told("?x=c", "?x=f(c)"))
        self.assertEqual(finder.told(), fillings_told("?x=a", "?x=b", "?x=c", "?x=f(c)"))
        self.assertEqual(finder.gone(), [])

    def test_new_ones_as_likenesses_come(self):
        web = web_of_texts("f(g(a))", "b")
        finder = Finder(web, [("f", ("g", "?x"))])
        self.assertEqual(finder.new(), fillings_told("?x=a"))
        web.like(("g", B), ("g", A))
        self.assertEqual(finder.new(), fillings_told("?x=b"))
        web.like(A, B)
        self.assertEqual(finder.new(), [])
        self.assertEqual(finder.told(), fillings_told("?x=a", "?x=b"))
        self.assertEqual(finder.gone(), [])

    def test_a_like_one_under_another_name_is_not_new(self):
        web = web_of_texts("f(b)")
        finder = Finder(web, [FX])
        self.assertEqual(finder.new(), fillings_told("?x=b"))
        web.like(A, B)
        self.assertEqual(joint(web, [FX]), fillings_told("?x=a"))
        self.assertEqual(finder.new(), [])
        self.assertEqual(finder.told(), fillings_told("?x=b"))
        self.assertEqual(finder.gone(), [])

    def test_what_is_taken_back_is_gone(self):
        web = web_of_texts("f(a)")
        finder = Finder(web, [FX])
        web.put(("f", B))
        finder.new()
        web.back()
        self.assertEqual(finder.gone(), fillings_told("?x=b"))
        self.assertEqual(finder.new(), [])
        self.assertEqual(finder.told(), fillings_told("?x=a", "?x=b"))
        web.again()
        self.assertEqual(finder.gone(), [])
        # It was told before, whatever came between.
        self.assertEqual(finder.new(), [])
        web.back()
        web.back()
        self.assertEqual(finder.gone(), fillings_told("?x=a", "?x=b"))
        web.put(("f", B))
        self.assertEqual(finder.new(), [])
        self.assertEqual(finder.gone(), fillings_told("?x=a"))

    def test_likenesses_that_are_taken_back_bring_new_ones(self):
        web = web_of_texts("f(a)", "f(b)", "a=b")
        finder = Finder(web, [FX])
        self.assertEqual(finder.new(), fillings_told("?x=a"))
        web.back()
        self.assertEqual(finder.new(), fillings_told("?x=b"))
        web.again()
        self.assertEqual(finder.new(), [])
        # Both are like the one that there is now.
        self.assertEqual(finder.gone(), [])
        self.assertEqual(finder.told(), fillings_told("?x=a", "?x=b"))

    def test_gone_ones_are_told_as_they_were(self):
        web = web_of_texts("f(b)", "a")
        finder = Finder(web, [FX])
        finder.new()
        web.back()
        web.back()
        web.like(A, B)
        self.assertEqual(finder.gone(), fillings_told("?x=b"))

    def test_terms_may_have_a_class_without_standing_there(self):
        web = web_of_texts("f(g(b))", "a=b")
        finder = Finder(web, [("f", "?x")])
        self.assertEqual(finder.new(), fillings_told("?x=g(b)"))
        web.back()
        web.back()
        web.put(("f", ("g", A)))
        self.assertEqual(finder.new(), fillings_told("?x=g(a)"))
        web.like(A, B)
        self.assertEqual(finder.gone(), [])

    def test_without_holes(self):
        web = Web()
        finder = Finder(web, [A])
        self.assertEqual(finder.new(), [])
        web.put(A)
        self.assertEqual(finder.new(), [()])
        self.assertEqual(finder.new(), [])
        web.back()
        self.assertEqual(finder.new(), [])
        self.assertEqual(finder.gone(), [()])
        none = Finder(web, [])
        self.assertEqual(none.new(), [()])
        self.assertEqual(none.new(), [])
        self.assertEqual(none.told(), [()])
        self.assertEqual(none.gone(), [])

    def test_forget(self):
        web = web_of_texts("f(a)")
        finder = Finder(web, [FX])
        finder.new()
        self.assertIsNone(finder.forget())
        self.assertEqual(finder.told(), [])
        self.assertEqual(finder.gone(), [])
        web.put(("f", B))
        self.assertEqual(finder.new(), fillings_told("?x=a", "?x=b"))
        self.assertIsNone(Finder(web, [FX]).forget())

    def test_two_finders_over_one_web(self):
        web = web_of_texts("f(a)")
        one, other = Finder(web, [FX]), Finder(web, [FX])
        self.assertEqual(one.new(), fillings_told("?x=a"))
        self.assertEqual(other.told(), [])
        self.assertEqual(other.new(), fillings_told("?x=a"))
        one.forget()
        self.assertEqual(other.told(), fillings_told("?x=a"))

    def test_it_sees_the_very_web_and_changes_nothing_of_it(self):
        web = web_of_texts("f(a)", "a=b", "c")
        web.back()
        before = whole(web)
        finder = Finder(web, [FX])
        finder.new()
        finder.gone()
        finder.told()
        finder.forget()
        self.assertEqual(whole(web), before)
        web.all_done([("put", ("f", C))])
        self.assertEqual(finder.new(), fillings_told("?x=a", "?x=c"))

    def test_lists_are_the_askers_own(self):
        web = web_of_texts("f(a)", "f(b)")
        patterns = [FX]
        finder = Finder(web=web, patterns=patterns)
        patterns.append(C)
        finder.new().append("more")
        finder.told().clear()
        self.assertEqual(finder.told(), fillings_told("?x=a", "?x=b"))
        web.back()
        finder.gone().clear()
        self.assertEqual(finder.gone(), fillings_told("?x=b"))
        patterns[0] = A
        self.assertEqual(finder.new(), [])

    def test_bad_terms(self):
        for thing in (None, True, 0, "?x", {}, [A] * 5, [None], [[]], ["a"], [wide(31)], [chain(6)], FX,
                      [("f", "?a", "?b", "?c"), ("f", "?d", "?e")], ["?a", "?b", "?c", "?d", "?e"]):
            with self.subTest(thing=thing), self.assertRaises(BadTerms):
                Finder(Web(), thing)
        for thing in NO_PATTERNS:
            with self.assertRaises(BadTerms):
                Finder(Web(), [thing])
        Finder(Web(), ("?a", "?b", "?c", "?d"))

    def test_refused_as_joint_and_then_what_was_told_stays(self):
        web = web_behind([("put", numbered(at)) for at in range(17)])
        finder = Finder(web, ["?x", "?y"])
        self.assertEqual(len(finder.new()), 289)
        told = finder.told()
        web.put(A)
        for refused in (finder.new, finder.gone):
            with self.assertRaises(TooMany):
                refused()
            self.assertEqual(finder.told(), told)
        web.back()
        self.assertEqual(finder.new(), [])
        self.assertEqual(finder.gone(), [])
        web.like(numbered(0), numbered(1))
        self.assertEqual(finder.new(), [])
        self.assertEqual(finder.gone(), [])
        web.put(A)
        self.assertEqual(len(finder.new()), 33)
        self.assertEqual(len(finder.told()), 322)

    def test_against_a_slow_one_over_many_deeds(self):
        chance = chances(70)
        many = {"new": 0, "gone": 0}
        for _ in range(60):
            web = Web()
            patterns = [some_small_pattern(chance, 2) for _ in range(chance.randrange(1, 3))]
            pair = (Finder(web, patterns), SlowFinder(web, patterns))
            for _ in range(12):
                word = chance.choice(("put", "like", "like", "unlike", "back", "back", "again", "forget"))
                try:
                    if word == "forget" and chance.random() < 0.3:
                        pair[0].forget()
                        pair[1].fillings = []
                    elif word in ("back", "again"):
                        getattr(web, word)()
                    elif len(web) < 10 and word != "forget":
                        web.all_done([(word,) + tuple(some_term(chance, 2) for _ in range(1 if word == "put" else 2))])
                except NoDeed:
                    pass
                if chance.random() < 0.6:
                    found = pair[0].new()
                    self.assertEqual(found, pair[1].new(), (web.log(), patterns))
                    many["new"] += len(found)
                gone = pair[0].gone()
                self.assertEqual(gone, pair[1].gone(), (web.log(), patterns))
                many["gone"] += len(gone)
                self.assertEqual(pair[0].told(), pair[1].fillings)
        self.assertGreater(many["new"], 100)
        self.assertGreater(many["gone"], 100)


if __name__ == "__main__":
    unittest.main()
