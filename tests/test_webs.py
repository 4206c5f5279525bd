"""[20], [21], [22] and unlike, parted of [40]: webs.py."""

import unittest

from helpers import (A, B, C, D, NO_PATTERNS, chain, chances, inner_terms, numbered, rank, slow_likeness, some_term, whole,
                     wide)
from likematch.errors import BadTerm, TooMany
from likematch.webs import Web

NO_TERMS = NO_PATTERNS + ("?x", ("f", "?x"), ("f", A, "?x"), wide(31), chain(6))


def web_of_terms(many):
    web = Web()
    for number in range(many):
        web.put(numbered(number))
    return web


class Putting(unittest.TestCase):
    def test_an_empty_web(self):
        web = Web()
        self.assertEqual(web.terms(), [])
        self.assertEqual(web.classes(), [])
        self.assertEqual(web.told(), {})
        self.assertEqual(web.parted(), {})
        self.assertEqual(web.log(), [])
        self.assertEqual(len(web), 0)
        self.assertIsNone(web.least(A))

    def test_all_in_a_term_stands_each_once(self):
        web = Web()
        self.assertIsNone(web.put(("f", ("g", B), A, ("g", B))))
        self.assertEqual(web.terms(), [A, B, ("g", B), ("f", ("g", B), A, ("g", B))])
        self.assertEqual(len(web), 4)
        self.assertIsNone(web.put(("g", B)))
        self.assertEqual(len(web), 4)
        self.assertIsNone(web.put(term=C))
        self.assertEqual(len(web), 5)

    def test_terms_rise_by_size_then_by_text(self):
        web = Web()
        for term in (("g", B), ("f", A, B), ("aa",), ("f", ("f", A)), ("b", A), C):
            web.put(term)
        self.assertEqual(web.terms(), [A, ("aa",), B, C, ("b", A), ("f", A), ("g", B), ("f", A, B), ("f", ("f", A))])
        self.assertEqual(web.terms(), sorted(web.terms(), key=rank))

    def test_bad_term(self):
        for thing in NO_TERMS:
            web = Web()
            web.put(A)
            with self.assertRaises(BadTerm):
                web.put(thing)
            self.assertEqual(web.log(), [("put", A)])
            self.assertEqual(web.terms(), [A])

    def test_greatest_terms_are_taken(self):
        web = Web()
        web.put(chain(5))
        web.like(wide(30), A)
        self.assertIs(web.alike(wide(30), A), True)

    def test_sixty_terms_and_one_more(self):
        web = web_of_terms(60)
        self.assertEqual(len(web), 60)
        before = whole(web)
        for refused in (lambda: web.put(A), lambda: web.like(A, numbered(0)), lambda: web.unlike(numbered(0), A),
                        lambda: web.put(("f", numbered(0)))):
            with self.assertRaises(TooMany):
                refused()
            self.assertEqual(whole(web), before)
        web.put(numbered(59))
        self.assertEqual(web.like(numbered(0), numbered(59)), 1)
        self.assertEqual(web.unlike(numbered(1), numbered(58)), 2)

    def test_two_at_once(self):
        web = web_of_terms(59)
        before = whole(web)
        for refused in (lambda: web.put(("f", A)), lambda: web.like(A, B), lambda: web.unlike(A, B),
                        lambda: web.put(("f", A, A, A))):
            with self.assertRaises(TooMany):
                refused()
            self.assertEqual(whole(web), before)
        self.assertEqual(web.like(A, A), 1)
        self.assertEqual(len(web), 60)

    def test_two_at_once_that_just_go_in(self):
        web = web_of_terms(58)
        web.like(A, B)
        self.assertEqual(len(web), 60)
        web = web_of_terms(58)
        web.put(("f", A))
        self.assertEqual(len(web), 60)
        with self.assertRaises(TooMany):
            web.put(("f", ("f", A)))


class Telling(unittest.TestCase):
    def test_numbers_go_on_through_both_kinds(self):
        web = Web()
        self.assertEqual(web.like(A, B), 1)
        self.assertEqual(web.unlike(C, A), 2)
        web.put(D)
        self.assertEqual(web.unlike(A, A), 3)
        self.assertEqual(web.like(B, A), 4)
        self.assertEqual(web.like(C, C), 5)
        self.assertEqual(web.like(A, B), 6)
        self.assertEqual(list(web.told().items()), [(1, (A, B)), (4, (B, A)), (5, (C, C)), (6, (A, B))])
        self.assertEqual(list(web.parted().items()), [(2, (C, A)), (3, (A, A))])
        self.assertEqual(web.terms(), [A, B, C, D])

    def test_by_name(self):
        web = Web()
        self.assertEqual(web.like(one=A, other=B), 1)
        self.assertEqual(web.unlike(other=C, one=D), 2)
        self.assertEqual(web.told(), {1: (A, B)})
        self.assertEqual(web.parted(), {2: (D, C)})
        self.assertIs(web.alike(one=A, other=B), True)
        self.assertEqual(web.least(term=B), A)

    def test_both_are_put_with_all_in_them(self):
        web = Web()
        web.like(("f", A), ("g", B, C))
        web.unlike(("h", D), A)
        self.assertEqual(web.terms(), [A, B, C, D, ("f", A), ("h", D), ("g", B, C)])

    def test_unlike_ones_stay_as_alike_as_they_were(self):
        web = Web()
        web.unlike(A, B)
        self.assertIs(web.alike(A, B), False)
        self.assertEqual(web.classes(), [[A], [B]])
        web.like(A, B)
        self.assertIs(web.alike(A, B), True)
        web.unlike(A, B)
        self.assertIs(web.alike(A, B), True)
        self.assertEqual(web.classes(), [[A, B]])

    def test_bad_terms(self):
        for thing in NO_TERMS:
            web = Web()
            web.like(A, B)
            before = whole(web)
            for tell in (web.like, web.unlike):
                with self.assertRaises(BadTerm):
                    tell(thing, C)
                with self.assertRaises(BadTerm):
                    tell(C, thing)
            self.assertEqual(whole(web), before)

    def test_forty_tellings_and_one_more(self):
        for words in (("like",), ("unlike",), ("like", "unlike"), ("unlike", "unlike", "like")):
            web = Web()
            for number in range(1, 41):
                tell = web.like if words[number % len(words)] == "like" else web.unlike
                self.assertEqual(tell(numbered(number % 7), numbered(number % 3)), number)
            before = whole(web)
            for tell in (web.like, web.unlike):
                for pair in ((A, B), (numbered(1), numbered(1)), (numbered(0), numbered(3))):
                    with self.assertRaises(TooMany):
                        tell(*pair)
            self.assertEqual(whole(web), before)
            self.assertEqual(len(web.told()) + len(web.parted()), 40)
            self.assertIsNone(web.put(A))

    def test_forty_of_one_with_itself_and_of_ones_alike_already(self):
        web = Web()
        for number in range(1, 21):
            self.assertEqual(web.like(A, A), 2 * number - 1)
            self.assertEqual(web.like(A, B), 2 * number)
        with self.assertRaises(TooMany):
            web.like(A, A)
        with self.assertRaises(TooMany):
            web.unlike(A, B)

    def test_bad_term_comes_ahead_of_too_many(self):
        full = web_of_terms(60)
        told = Web()
        for _ in range(40):
            told.unlike(A, B)
        for web in (full, told):
            for tell in (web.like, web.unlike):
                for pair in ((None, C), (C, None), (["a"], "?x"), (C, ("f", "?x"))):
                    with self.assertRaises(BadTerm):
                        tell(*pair)
        with self.assertRaises(BadTerm):
            full.put(("f", "?x"))


class Likeness(unittest.TestCase):
    def test_itself_and_others(self):
        web = Web()
        web.put(A)
        self.assertIs(web.alike(A, A), True)
        self.assertIs(web.alike(B, B), True)
        self.assertIs(web.alike(A, B), False)
        self.assertIs(web.alike(C, B), False)
        self.assertIs(web.alike(("f", C), ("f", C)), True)

    def test_either_way_about_and_through_a_third(self):
        for pairs in (((A, B), (B, C)), ((B, A), (B, C)), ((A, B), (C, B)), ((C, B), (B, A)), ((B, C), (A, B))):
            web = Web()
            for pair in pairs:
                web.like(*pair)
            self.assertIs(web.alike(A, C), True)
            self.assertIs(web.alike(C, A), True)
            self.assertIs(web.alike(A, D), False)

    def test_like_parts(self):
        web = Web()
        web.put(("f", A, C))
        web.put(("f", B, D))
        web.like(A, B)
        self.assertIs(web.alike(("f", A, C), ("f", B, D)), False)
        web.like(D, C)
        self.assertIs(web.alike(("f", A, C), ("f", B, D)), True)
        self.assertIs(web.alike(("f", C, A), ("f", B, D)), False)
        self.assertIs(web.alike(("g", A, C), ("f", B, D)), False)

    def test_terms_come_behind_the_tellings(self):
        web = Web()
        web.like(A, B)
        web.put(("f", A))
        web.put(("f", B))
        self.assertEqual(web.classes(), [[A, B], [("f", A), ("f", B)]])

    def test_one_head_with_unlike_numbers_of_parts(self):
        web = Web()
        web.put(("f", A))
        web.put(("f", A, A))
        web.like(A, ("f",))
        self.assertIs(web.alike(("f", A), ("f", A, A)), False)
        self.assertIs(web.alike(("f", A), ("f",)), False)
        self.assertIs(web.alike(("f", A), ("f", ("f",))), True)

    def test_ones_that_do_not_stand(self):
        web = Web()
        web.like(A, B)
        self.assertIs(web.alike(("f", A), ("f", B)), True)
        self.assertIs(web.alike(("f", ("g", A, C)), ("f", ("g", B, C))), True)
        self.assertIs(web.alike(("f", ("g", A, C)), ("f", ("g", B, D))), False)
        self.assertEqual(web.terms(), [A, B])

    def test_of_ones_that_stand_and_ones_that_do_not(self):
        web = Web()
        web.like(A, B)
        web.like(("f", A), C)
        self.assertIs(web.alike(("f", B), C), True)
        self.assertIs(web.alike(C, ("f", B)), True)
        self.assertIs(web.alike(("g", ("f", B)), ("g", C)), True)
        self.assertIs(web.alike(("f", ("f", B)), ("f", C)), True)
        self.assertIs(web.alike(("f", ("f", B)), C), False)
        self.assertEqual(len(web), 4)

    def test_terms_within_the_ones_they_are_like(self):
        web = Web()
        web.like(A, ("f", A))
        for deep in range(1, 6):
            self.assertIs(web.alike(chain(deep), A), True)
            self.assertEqual(web.least(chain(deep)), A)
            self.assertIs(web.alike(chain(deep, B), A), False)
        self.assertEqual(web.terms(), [A, ("f", A)])

    def test_greatest_common_number_of_steps(self):
        web = Web()
        web.like(chain(4), A)
        self.assertIs(web.alike(("f", A), A), False)
        web.like(chain(3), A)
        self.assertIs(web.alike(("f", A), A), True)
        self.assertEqual(web.classes(), [[A, ("f", A), ("f", ("f", A)), chain(4)]])

    def test_deep_classes_of_shallow_terms(self):
        # What stands for f(a) is deeper than f(a), which stands nowhere.
        web = Web()
        web.like(A, chain(4, C, "g"))
        web.put(("f", chain(4, C, "g")))
        self.assertIs(web.alike(("h", ("h", ("h", ("f", A)))), ("h", ("h", ("h", ("f", A))))), True)
        self.assertEqual(web.least(("f", A)), ("f", chain(4, C, "g")))
        web.like(A, ("h", ("f", A)))
        self.assertIs(web.alike(("h", ("f", ("h", ("f", A)))), A), True)

    def test_bad_terms(self):
        web = Web()
        web.like(A, B)
        for thing in NO_TERMS:
            with self.assertRaises(BadTerm):
                web.alike(thing, A)
            with self.assertRaises(BadTerm):
                web.alike(A, thing)
            with self.assertRaises(BadTerm):
                web.alike(thing, thing)
            with self.assertRaises(BadTerm):
                web.least(thing)

    def test_many_webs_against_the_slow_way(self):
        chance = chances(21)
        for _ in range(60):
            web = Web()
            terms = []
            pairs = []
            for _ in range(chance.randrange(1, 8)):
                one, other = some_term(chance), some_term(chance)
                kind = chance.random()
                if kind < 0.3:
                    web.put(one)
                    terms.append(one)
                elif kind < 0.9:
                    web.like(one, other)
                    pairs.append((one, other))
                else:
                    web.unlike(one, other)
                    terms += [one, other]
            self.check_web(web, terms, pairs, [some_term(chance) for _ in range(6)])

    def check_web(self, web, terms, pairs, asked):
        alike = slow_likeness(terms + asked, pairs)
        stand = set()
        for term in terms + [term for pair in pairs for term in pair]:
            inner_terms(term, stand)
        world = sorted({term for pair in alike for term in pair}, key=rank)
        for one in world:
            for other in world:
                self.assertIs(web.alike(one, other), (one, other) in alike, (pairs, one, other))
            mates = [other for other in world if other in stand and (one, other) in alike]
            self.assertEqual(web.least(one), mates[0] if mates else None)
        rising = sorted(stand, key=rank)
        self.assertEqual(web.terms(), rising)
        self.assertEqual(len(web), len(rising))
        kinds = [[other for other in rising if (one, other) in alike] for one in rising]
        self.assertEqual(web.classes(), [kind for at, kind in enumerate(kinds) if kind[0] == rising[at]])

    def test_the_order_of_tellings_is_free(self):
        chance = chances(22)
        pairs = [(some_term(chance), some_term(chance)) for _ in range(8)]
        seen = set()
        for _ in range(20):
            chance.shuffle(pairs)
            web = Web()
            for pair in pairs:
                web.like(*(pair if chance.random() < 0.5 else pair[::-1]))
            seen.add(str(web.classes()))
        self.assertEqual(len(seen), 1)


class Classes(unittest.TestCase):
    def test_classes_and_least_ones(self):
        web = Web()
        web.like(("f", B), C)
        web.like(C, ("g", A))
        web.put(D)
        self.assertEqual(web.classes(), [[A], [B], [C, ("f", B), ("g", A)], [D]])
        self.assertEqual(web.least(("g", A)), C)
        self.assertEqual(web.least(D), D)
        web.like(D, B)
        self.assertEqual(web.classes(), [[A], [B, D], [C, ("f", B), ("g", A)]])
        self.assertEqual(web.least(("f", D)), C)

    def test_the_order_is_that_of_the_least_ones(self):
        web = Web()
        web.like(("f", A), ("f", B))
        web.like(("aa",), ("h", A))
        web.put(("b", A))
        self.assertEqual(web.classes(), [[A], [("aa",), ("h", A)], [B], [("b", A)], [("f", A), ("f", B)]])

    def test_least_of_ones_that_do_not_stand(self):
        web = Web()
        web.like(A, B)
        self.assertIsNone(web.least(("f", A)))
        self.assertIsNone(web.least(C))
        web.put(("f", B))
        self.assertEqual(web.least(("f", A)), ("f", B))
        self.assertIsNone(web.least(("f", C)))
        self.assertIsNone(web.least(("f", A, A)))
        self.assertEqual(web.least(("f", B)), ("f", B))

    def test_the_least_one_may_come_late(self):
        web = Web()
        web.like(("f", B), ("f", C))
        self.assertEqual(web.least(("f", C)), ("f", B))
        web.like(A, B)
        self.assertEqual(web.least(("f", A)), ("f", B))
        web.put(("f", A))
        self.assertEqual(web.least(("f", C)), ("f", A))
        web.like(("f", A), ("z",))
        self.assertEqual(web.least(("f", C)), ("z",))


class WhatIsToldIsNew(unittest.TestCase):
    def test_changing_it_changes_nothing(self):
        web = Web()
        web.like(A, B)
        web.unlike(A, ("f", C))
        before = whole(web)
        web.terms().clear()
        web.classes()[0].append(C)
        web.classes().pop()
        web.told()[1] = None
        web.parted().clear()
        web.log().append(("put", D))
        self.assertEqual(whole(web), before)

    def test_asking_changes_nothing(self):
        web = Web()
        web.like(A, ("f", B))
        web.put(C)
        web.back()
        before = whole(web)
        web.alike(("g", A), ("g", B))
        web.least(("h", ("f", A)))
        web.twin()
        self.assertEqual(whole(web), before)

    def test_webs_have_nothing_in_common(self):
        one, other = Web(), Web()
        one.like(A, B)
        self.assertEqual(len(other), 0)
        self.assertIs(other.alike(A, B), False)


if __name__ == "__main__":
    unittest.main()
