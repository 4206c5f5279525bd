"""[30] and [31]: papers.py."""

import unittest

from helpers import (A, B, C, D, NO_PATTERNS, chain, chances, numbered, slow_likeness, some_rows, some_term,
                     walked, whole, wide)
from likematch.errors import BadTerm, NotAlike
from likematch.papers import paper_of, says, tellings
from likematch.webs import Web

NO_TERMS = NO_PATTERNS + ("?x", ("f", "?x"), ("f", A, "?x"), wide(31), chain(6))
TOLD = {1: (A, B), 3: (B, C), 7: (("f", A), D)}
NO_NUMBERS = (None, True, False, "0", "", (), (0,), [0], {}, {0: 0})


def web_behind(rows):
    web = Web()
    web.all_done(rows)
    return web


class TheJudge(unittest.TestCase):
    def judged(self, paper, pair, told=None):
        self.assertEqual(says(TOLD if told is None else told, paper), pair)

    def no_paper(self, paper, told=None):
        with self.subTest(paper=str(paper)[:200]):
            self.assertIsNone(says(TOLD if told is None else told, paper))

    def test_same(self):
        self.judged([("same", A)], (A, A))
        self.judged([("same", ("f", A, ("g", B)))], (("f", A, ("g", B)),) * 2)
        self.judged([("same", A)], (A, A), {})

    def test_told(self):
        self.judged([("told", 1)], (A, B))
        self.judged([("told", 7)], (("f", A), D))
        self.judged([("told", 1000)], (D, C), {1000: (D, C)})
        self.judged([("told", 0)], (D, C), {0: (D, C), 1: (A, A)})

    def test_back(self):
        self.judged([("told", 1), ("back", 0)], (B, A))
        self.judged([("told", 1), ("back", 0), ("back", 1)], (A, B))
        self.judged([("told", 1), ("told", 3), ("back", 0)], (B, A))

    def test_then(self):
        self.judged([("told", 1), ("told", 3), ("then", 0, 1)], (A, C))
        self.judged([("told", 3), ("told", 1), ("then", 1, 0)], (A, C))
        self.judged([("told", 1), ("back", 0), ("then", 0, 1)], (A, A))
        self.judged([("same", A), ("then", 0, 0)], (A, A))

    def test_parts(self):
        self.judged([("told", 1), ("parts", "f", (0,))], (("f", A), ("f", B)))
        self.judged([("told", 1), ("told", 3), ("parts", "f", (0, 1))], (("f", A, B), ("f", B, C)))
        self.judged([("told", 1), ("told", 3), ("parts", "f", (1, 0, 1))], (("f", B, A, B), ("f", C, B, C)))
        self.judged([("told", 1), ("same", D), ("parts", "longname", (1, 0))], (("longname", D, A), ("longname", D, B)))
        self.judged([("told", 1), ("parts", "f", (0,)), ("parts", "f", (1,))],
                    (("f", ("f", A)), ("f", ("f", B))))

    def test_all_five_together(self):
        paper = [("told", 1), ("parts", "f", (0,)), ("back", 1), ("told", 7), ("then", 2, 3), ("same", C),
                 ("parts", "g", (4, 5))]
        self.judged(paper, (("g", ("f", B), C), ("g", D, C)))

    def test_the_pair_is_that_of_the_last_row(self):
        paper = [("told", 1), ("told", 3), ("then", 0, 1)]
        for many in (1, 2, 3):
            self.judged(paper[:many], [(A, B), (B, C), (A, C)][many - 1])

    def test_a_tuple_of_rows_and_names(self):
        self.judged((("told", 1), ("told", 3), ("then", 0, 1)), (A, C))
        self.assertEqual(says(told=TOLD, paper=[("told", 1)]), (A, B))
        self.assertEqual(says(paper=(("told", 3),), told=TOLD), (B, C))

    def test_an_empty_one(self):
        self.no_paper([])
        self.no_paper(())

    def test_twenty_thousand_rows_and_one_more(self):
        rows = [("same", A)] * 19999
        self.judged(rows + [("told", 3)], (B, C))
        self.judged(tuple(rows) + (("told", 3),), (B, C))
        self.judged([("told", 1)] + [("back", at) for at in range(19999)], (B, A))
        self.no_paper(rows + [("told", 3)] * 2)
        self.no_paper(tuple(rows) + (("told", 3),) * 2)
        self.no_paper([("told", 1)] + [("back", at) for at in range(20000)])
        self.no_paper([("same", A)] * 50000)

    def test_places_that_do_not_stand_ahead_of_the_row(self):
        rows = [("told", 1), ("back", 0)]
        self.judged(rows + [("then", 0, 1)], (A, A))
        for at in (2, 3, 20000, 10 ** 30, -1, -2, -3):
            self.no_paper(rows + [("back", at)])
            self.no_paper(rows + [("back", at), ("same", A), ("same", A)])
            for last in (0, 1):
                self.no_paper(rows + [("then", at, last)])
                self.no_paper(rows + [("then", last, at)])
                self.no_paper(rows + [("parts", "f", (last, at))])
                self.no_paper(rows + [("parts", "f", (at, last))])
                self.no_paper(rows + [("parts", "f", (last, last, at))])
            self.no_paper(rows + [("parts", "f", (at,))])
        self.no_paper([("back", 0)])
        self.no_paper([("then", 0, 0)])
        self.no_paper([("parts", "f", (0,))])
        self.no_paper([("back", 1), ("told", 1)])

    def test_things_in_the_place_of_a_number(self):
        told = {0: (A, B), 1: (A, B)}
        rows = [("told", 1), ("same", B)]
        self.judged(rows + [("then", 0, 1)], (A, B), told)
        for thing in NO_NUMBERS:
            for row in (("told", thing), ("back", thing), ("then", thing, 1), ("then", 0, thing), ("then", thing, thing),
                        ("parts", "f", (thing,)), ("parts", "f", (0, thing)), ("parts", "f", (thing, 0, 0))):
                self.no_paper(rows + [row], told)

    def test_truths_are_no_numbers(self):
        told = {0: (A, A), 1: (A, A)}
        rows = [("told", 0), ("told", 1)]
        for at in (0, 1):
            for row in (("told", at), ("back", at), ("then", at, 0), ("then", 1, at), ("parts", "f", (at,)),
                        ("parts", "f", (0, 1, at))):
                self.assertIsNotNone(says(told, rows + [row]))
            for row in (("told", bool(at)), ("back", bool(at)), ("then", bool(at), 0), ("then", 1, bool(at)),
                        ("parts", "f", (bool(at),)), ("parts", "f", (0, 1, bool(at)))):
                self.no_paper(rows + [row], told)

    def test_numbers_that_told_has_not(self):
        for number in (0, 2, 4, -1, 1001, 10 ** 30):
            self.no_paper([("told", number)])
            self.no_paper([("told", 1), ("told", number), ("told", 1)])
        self.no_paper([("told", 1)], {})

    def test_pairs_that_do_not_meet(self):
        for row in (("then", 0, 0), ("then", 1, 0), ("then", 1, 1)):
            self.no_paper([("told", 1), ("told", 3), row])
        self.no_paper([("same", ("f", A)), ("same", A), ("then", 0, 1)])

    def test_terms_beyond_the_bounds(self):
        self.judged([("same", chain(5))], (chain(5), chain(5)))
        self.judged([("same", wide(30))], (wide(30), wide(30)))
        for term in NO_TERMS:
            self.no_paper([("same", term)])
            self.no_paper([("same", A), ("same", term), ("same", A)])
        told = {1: (chain(4), A), 2: (A, chain(4)), 3: (chain(5), A), 4: (A, chain(5))}
        for number in (1, 2):
            self.assertIsNotNone(says(told, [("told", number), ("parts", "f", (0,))]))
        for number in (3, 4):
            self.assertIsNotNone(says(told, [("told", number)]))
            self.no_paper([("told", number), ("parts", "f", (0,))], told)
            self.no_paper([("told", number), ("parts", "f", (0,)), ("same", A)], told)
            self.no_paper([("same", A), ("told", number), ("parts", "f", (0, 1, 0))], told)

    def test_a_telling_of_a_term_beyond_the_bounds(self):
        for term in (wide(31), chain(6)):
            for pair in ((term, A), (A, term)):
                self.no_paper([("told", 1)], {1: pair})
                self.no_paper([("told", 1), ("same", A)], {1: pair})
        self.judged([("told", 1)], (wide(30), chain(5)), {1: (wide(30), chain(5)), 2: (wide(31), A)})

    def test_sizes_of_just_thirty_and_one_more(self):
        told = {1: (A, wide(10)), 2: (wide(9), A), 3: (wide(28), A), 4: (A, wide(29)), 5: (wide(11), A)}
        rows = [("told", number) for number in range(1, 6)] + [("same", A), ("back", 1), ("back", 4)]
        self.assertIsNotNone(says(told, rows + [("parts", "f", (2, 5))]))
        self.no_paper(rows + [("parts", "f", (3, 5))], told)
        self.assertIsNotNone(says(told, rows + [("parts", "f", (3,))]))
        self.assertIsNotNone(says(told, rows + [("parts", "f", (0, 0, 6))]))
        self.no_paper(rows + [("parts", "f", (0, 0, 0))], told)
        self.no_paper(rows + [("parts", "f", (7, 0, 6))], told)

    def test_heads_that_are_none(self):
        for head in (None, True, 0, 1, "", "F", "f1", "?x", "f ", "abcdefghi", ("f",), ["f"], {}, A):
            self.no_paper([("told", 1), ("parts", head, (0,))])
        self.judged([("told", 1), ("parts", "abcdefgh", (0,))], (("abcdefgh", A), ("abcdefgh", B)))

    def test_numbers_of_parts_and_what_is_no_tuple_of_places(self):
        rows = [("told", 1)]
        for many in (1, 2, 3):
            self.assertIsNotNone(says(TOLD, rows + [("parts", "f", (0,) * many)]))
        for ats in ((), (0, 0, 0, 0), (0,) * 5, [0], [0, 0], [], 0, None, True, "0", {}, {0: 0}, ((0,),), (A,)):
            self.no_paper(rows + [("parts", "f", ats)])

    def test_rows_of_another_word_length_or_kind(self):
        wrong = [(), ("same",), ("same", A, A), ("told",), ("told", 1, 1), ("back",), ("back", 0, 0), ("then",),
                 ("then", 0), ("then", 0, 0, 0), ("parts",), ("parts", "f"), ("parts", "f", (0,), (0,)),
                 ("parts", "f", 0, 0), ("Same", A), ("sam", A), ("", A), ("samesame", A), (None, A), (0, A), (True, A),
                 (("same",), A), (["same"], A), ({}, A), (A, A), ("like", A, B), ("put", A), ["same", A], ["told", 1],
                 ["back", 0], ["then", 0, 0], ["parts", "f", (0,)], "same", "to", "told", None, True, 0, 1, [], {},
                 {"same": A}, {"told": 1}, A, ("f", A), (1, 2)]
        for row in wrong:
            self.no_paper([row])
            self.no_paper([("same", A), row])
            self.no_paper([("same", A), row, ("same", A)])

    def test_things_that_are_no_paper(self):
        for thing in (None, True, False, 0, 1, 7, "", "same", "told", {}, {0: ("same", A)}, {("same", A): 0}, A, (A,),
                      ("same", A), ("told", 1), [[("same", A)]], [None], [True], ["same", "told"]):
            self.no_paper(thing)

    def test_nothing_handed_in_is_changed(self):
        told = dict(TOLD)
        paper = [("told", 1), ("told", 3), ("then", 0, 1)]
        rows = list(paper)
        self.assertEqual(says(told, paper), (A, C))
        self.assertIsNone(says(told, [("told", 2)]))
        self.assertEqual(told, TOLD)
        self.assertEqual(paper, rows)


class WritingPapers(unittest.TestCase):
    def proven(self, web, one, other):
        """The numbers of the paper, when it was judged."""
        paper = paper_of(web, one, other)
        self.assertEqual(walked(web.told(), paper), (one, other))
        self.assertEqual(says(web.told(), paper), (one, other))
        numbers = tellings(paper)
        self.assertEqual(numbers, sorted({row[1] for row in paper if row[0] == "told"}))
        for left_out in numbers:
            # By a web of its own, behind all the others alone.
            other_web = Web()
            for number in numbers:
                if number != left_out:
                    other_web.like(*web.told()[number])
            self.assertIs(other_web.alike(one, other), False, (web.told(), numbers, one, other))
        return numbers

    def test_a_term_with_itself(self):
        web = Web()
        self.assertEqual(self.proven(web, A, A), [])
        web.like(A, B)
        web.like(A, A)
        for term in (A, B, C, ("f", A, C), chain(5), wide(30)):
            self.assertEqual(self.proven(web, term, term), [])

    def test_told_ones(self):
        web = web_behind([("like", A, B), ("unlike", A, D), ("like", B, C)])
        self.assertEqual(self.proven(web, A, B), [1])
        self.assertEqual(self.proven(web, B, A), [1])
        self.assertEqual(self.proven(web, A, C), [1, 3])
        self.assertEqual(self.proven(web, C, A), [1, 3])

    def test_unlike_ones_have_no_say(self):
        web = web_behind([("unlike", A, B)])
        with self.assertRaises(NotAlike):
            paper_of(web, A, B)

    def test_like_parts(self):
        web = web_behind([("like", A, B), ("put", ("f", A, C)), ("put", ("f", B, D)), ("like", D, C)])
        self.assertEqual(self.proven(web, ("f", A, C), ("f", B, D)), [1, 2])
        self.assertEqual(self.proven(web, ("f", B, D), ("f", A, C)), [1, 2])
        self.assertEqual(self.proven(web, ("f", A, C), ("f", B, C)), [1])

    def test_ones_that_do_not_stand(self):
        web = web_behind([("like", A, B), ("like", ("f", A), C)])
        self.assertEqual(self.proven(web, ("g", A), ("g", B)), [1])
        self.assertEqual(self.proven(web, ("f", B), C), [1, 2])
        self.assertEqual(self.proven(web, ("g", ("f", B), D), ("g", C, D)), [1, 2])
        self.assertEqual(self.proven(web, ("g", ("f", A), D), ("g", C, D)), [2])
        self.assertEqual(web.terms(), [A, B, C, ("f", A)])

    def test_terms_within_the_ones_they_are_like(self):
        web = web_behind([("like", A, ("f", A))])
        for deep in range(2, 6):
            self.assertEqual(self.proven(web, chain(deep), A), [1])
            self.assertEqual(self.proven(web, A, chain(deep)), [1])
        web = web_behind([("like", chain(4), A), ("like", chain(3), A)])
        self.assertEqual(self.proven(web, ("f", A), A), [1, 2])
        self.assertEqual(self.proven(web, chain(5), chain(2)), [1])

    def test_what_was_told_too_much_is_left_out(self):
        web = web_behind([("like", A, B), ("like", B, C), ("like", A, C), ("like", A, B), ("like", A, A)])
        self.assertIn(self.proven(web, A, C), ([3], [1, 2], [2, 4]))
        web = web_behind([("like", A, B), ("like", C, D), ("like", numbered(1), numbered(2))])
        self.assertEqual(self.proven(web, C, D), [2])
        web = web_behind([("like", ("f", A), ("f", B)), ("like", A, B), ("like", ("f", A), ("f", B))])
        self.assertIn(self.proven(web, ("f", A), ("f", B)), ([1], [2], [3]))
        self.assertEqual(self.proven(web, A, B), [2])

    def test_two_short_ways_through_one_telling(self):
        rows = [("like", A, B), ("like", ("f", A), C), ("like", ("f", B), D), ("like", C, ("g", A)),
                ("like", D, ("g", B)), ("like", C, D)]
        web = web_behind(rows)
        self.assertIn(self.proven(web, C, D), ([6], [1, 2, 3], [1, 4, 5]))
        self.assertEqual(self.proven(web_behind(rows[:3]), C, D), [1, 2, 3])

    def test_refused(self):
        web = web_behind([("like", A, B), ("put", C)])
        before = whole(web)
        for pair in ((A, C), (C, A), (A, D), (D, C), (("f", A), ("f", C)), (("f", A), ("f", A, A)), (("f", A), A)):
            with self.assertRaises(NotAlike):
                paper_of(web, *pair)
        for thing in NO_TERMS:
            for pair in ((thing, A), (A, thing), (thing, thing), (thing, C), (C, thing)):
                with self.assertRaises(BadTerm):
                    paper_of(web, *pair)
        self.assertEqual(whole(web), before)

    def test_by_name(self):
        web = web_behind([("like", A, B)])
        self.assertEqual(walked(web.told(), paper_of(web=web, one=B, other=A)), (B, A))
        self.assertEqual(tellings(paper=paper_of(other=A, one=B, web=web)), [1])

    def test_nothing_is_changed_and_told_is_new(self):
        web = web_behind([("like", A, B), ("like", B, C), ("put", D)])
        web.back()
        before = whole(web)
        paper = paper_of(web, ("f", A), ("f", C))
        self.assertEqual(whole(web), before)
        paper.clear()
        self.assertEqual(self.proven(web, ("f", A), ("f", C)), [1, 2])

    def test_long_ones(self):
        rows = [("like", numbered(number), numbered(number + 1)) for number in range(40)]
        web = web_behind(rows)
        self.assertEqual(self.proven(web, numbered(0), numbered(40)), list(range(1, 41)))
        for at in range(19):
            web.put(("f", numbered(at), numbered(40 - at), numbered(at * 17 % 41)))
        self.assertEqual(len(web), 60)
        one = ("g", ("f", numbered(0), numbered(40), numbered(0)), ("f", numbered(40), numbered(0), numbered(3)))
        other = ("g", ("f", numbered(40), numbered(20), numbered(5)), ("f", numbered(1), numbered(0), numbered(9)))
        self.assertEqual(self.proven(web, one, other), list(range(1, 41)))

    def test_great_ones(self):
        web = web_behind([("like", A, B)])
        one, other = wide(30), tuple_with(wide(30), A, B)
        self.assertEqual(self.proven(web, one, other), [1])
        self.assertEqual(self.proven(web, chain(5), chain(5, B)), [1])
        web.like(chain(5), wide(30))
        self.assertEqual(self.proven(web, other, chain(5, B)), [1, 2])

    def test_many_webs_against_the_slow_way(self):
        chance = chances(31)
        proven = 0
        for _ in range(40):
            rows = some_rows(chance, chance.randrange(1, 8))
            web = web_behind(rows)
            asked = [some_term(chance) for _ in range(5)]
            alike = slow_likeness(web.terms() + asked, list(web.told().values()))
            world = sorted({term for pair in alike for term in pair})
            for one in world:
                for other in world:
                    if (one, other) in alike:
                        proven += bool(self.proven(web, one, other))
                    else:
                        with self.assertRaises(NotAlike):
                            paper_of(web, one, other)
        self.assertGreater(proven, 200)

    def test_left_out_ones_against_the_slow_way(self):
        chance = chances(32)
        for _ in range(15):
            pairs = [(some_term(chance, 2), some_term(chance, 2)) for _ in range(7)]
            web = web_behind([("like", one, other) for one, other in pairs])
            for kind in web.classes():
                numbers = tellings(paper_of(web, kind[0], kind[-1]))
                for left_out in numbers:
                    others = [pairs[number - 1] for number in numbers if number != left_out]
                    self.assertNotIn((kind[0], kind[-1]), slow_likeness(kind, others))


def tuple_with(term, old, new):
    """The term with one part exchanged wherever it stands."""
    return new if term == old else (term[0],) + tuple(tuple_with(part, old, new) for part in term[1:])


class Numbers(unittest.TestCase):
    def test_rising_and_each_once(self):
        self.assertEqual(tellings([("told", 7), ("told", 1), ("told", 7), ("told", 3)]), [1, 3, 7])
        self.assertEqual(tellings((("told", 10), ("told", 9))), [9, 10])
        self.assertEqual(tellings([("told", 1001), ("told", 2)]), [2, 1001])

    def test_other_rows_have_none(self):
        self.assertEqual(tellings([("same", A)]), [])
        paper = [("told", 3), ("back", 0), ("then", 0, 1), ("parts", "f", (0, 1)), ("same", A)]
        self.assertEqual(tellings(paper), [3])

    def test_told_is_new(self):
        paper = [("told", 3)]
        tellings(paper).clear()
        self.assertEqual(tellings(paper), [3])
        self.assertEqual(paper, [("told", 3)])


class BehindDeeds(unittest.TestCase):
    def test_taken_back_and_done_again(self):
        web = web_behind([("put", ("f", A)), ("like", A, B), ("like", B, C)])
        self.assertEqual(tellings(paper_of(web, ("f", A), ("f", C))), [1, 2])
        web.back()
        with self.assertRaises(NotAlike):
            paper_of(web, ("f", A), ("f", C))
        web.again()
        self.assertEqual(walked(web.told(), paper_of(web, ("f", A), ("f", C))), (("f", A), ("f", C)))
        web.back()
        web.like(A, C)
        self.assertEqual(tellings(paper_of(web, ("f", A), ("f", C))), [2])

    def test_of_twins(self):
        web = web_behind([("like", A, B), ("like", B, C)])
        web.back()
        twin = web.twin()
        web.again()
        with self.assertRaises(NotAlike):
            paper_of(twin, A, C)
        self.assertEqual(paper_of(twin, A, B), paper_of(web, A, B))
        twin.again()
        self.assertEqual(paper_of(twin, A, C), paper_of(web, A, C))

    def test_many_rows_of_deeds(self):
        chance = chances(33)
        for _ in range(15):
            web = Web()
            for _ in range(25):
                kind = chance.random()
                if kind < 0.3 and web.log():
                    web.back()
                elif kind < 0.4:
                    web = web.twin()
                else:
                    web.all_done(some_rows(chance, 1))
                fresh = web_behind(web.log())
                for kind in web.classes():
                    pair = (kind[0], kind[-1])
                    self.assertEqual(walked(fresh.told(), paper_of(web, *pair)), pair)
                    self.assertEqual(tellings(paper_of(web, *pair)), tellings(paper_of(fresh, *pair)))


class TheTestsJudge(unittest.TestCase):
    def test_it_refuses_what_is_no_paper(self):
        for paper in ([], [("back", 0)], [("told", 1), ("then", 0, 0)], [("same", chain(6))], [("told", 1), ("back", 1)],
                      [("told", 1), ("parts", "f", ())], [("told", 1), ("back", False)]):
            with self.assertRaises(AssertionError):
                walked(TOLD, paper)


if __name__ == "__main__":
    unittest.main()
