"""[50] (back, again, log, twin) and [51] (all_done): webs.py."""

import unittest

from helpers import A, B, C, D, chances, numbered, some_term, undone, whole
from likematch.errors import BadTerm, NoDeed, NoLog, TooMany
from likematch.webs import Web


def done(rows):
    """A new web behind these rows, done by its methods one by one."""
    web = Web()
    for row in rows:
        if row[0] == "put":
            web.put(row[1])
        elif row[0] == "like":
            web.like(row[1], row[2])
        else:
            web.unlike(row[1], row[2])
    return web


def some_row(chance):
    word = chance.choice(("put", "like", "like", "unlike"))
    return (word, some_term(chance)) + (() if word == "put" else (some_term(chance),))


ROWS = [("put", ("f", A)), ("like", A, B), ("unlike", C, ("f", B)), ("put", A), ("like", C, C)]


class BackAndAgain(unittest.TestCase):
    def test_nothing_to_be_taken_back_or_done_again(self):
        web = Web()
        for refused in (web.back, web.again, web.back):
            with self.assertRaises(NoDeed):
                refused()
        web.put(A)
        with self.assertRaises(NoDeed):
            web.again()
        web.back()
        with self.assertRaises(NoDeed):
            web.back()
        web.again()
        with self.assertRaises(NoDeed):
            web.again()
        self.assertEqual(web.log(), [("put", A)])

    def test_step_by_step_all_the_way(self):
        web = done(ROWS)
        for many in range(len(ROWS) - 1, -1, -1):
            self.assertIsNone(web.back())
            self.assertEqual(whole(web), whole(done(ROWS[:many]))[:-1] + (ROWS[many:],))
        for many in range(1, len(ROWS) + 1):
            web.again()
            self.assertEqual(whole(web), whole(done(ROWS[:many]))[:-1] + (ROWS[many:],))

    def test_behind_back_all_stands_as_ahead(self):
        web = Web()
        web.put(("f", A))
        web.put(("f", B))
        web.like(A, B)
        self.assertIs(web.alike(("f", A), ("f", B)), True)
        web.back()
        self.assertIs(web.alike(("f", A), ("f", B)), False)
        self.assertEqual(web.classes(), [[A], [B], [("f", A)], [("f", B)]])
        self.assertEqual(web.told(), {})
        web.back()
        self.assertEqual(web.terms(), [A, ("f", A)])
        web.again()
        web.again()
        self.assertIs(web.alike(("f", A), ("f", B)), True)
        self.assertEqual(web.told(), {1: (A, B)})

    def test_terms_that_stood_ahead_of_a_deed_still_stand(self):
        web = Web()
        web.put(("f", A))
        web.like(A, ("g", A))
        web.back()
        self.assertEqual(web.terms(), [A, ("f", A)])

    def test_numbers_are_given_anew(self):
        web = Web()
        self.assertEqual(web.like(A, B), 1)
        self.assertEqual(web.unlike(A, C), 2)
        web.back()
        self.assertEqual(web.like(A, D), 2)
        self.assertEqual(web.told(), {1: (A, B), 2: (A, D)})
        self.assertEqual(web.parted(), {})

    def test_a_put_of_a_term_that_stands_is_a_deed(self):
        web = Web()
        web.put(A)
        web.put(A)
        self.assertEqual(web.log(), [("put", A), ("put", A)])
        web.back()
        self.assertEqual(web.terms(), [A])
        self.assertEqual(web.log(), [("put", A)])
        web.back()
        self.assertEqual(web.terms(), [])

    def test_tellings_of_ones_alike_already_are_deeds(self):
        web = Web()
        web.like(A, B)
        web.like(B, A)
        web.like(A, A)
        web.back()
        web.back()
        self.assertEqual(web.log(), [("like", A, B)])
        self.assertIs(web.alike(A, B), True)
        web.back()
        self.assertIs(web.alike(A, B), False)

    def test_no_other_deed_behind_one_that_was_taken_back(self):
        for deed in (("put", A), ("put", D), ("like", A, B), ("unlike", A, B), ("like", A, A)):
            web = done(ROWS)
            web.back()
            web.back()
            web.all_done([deed])
            with self.assertRaises(NoDeed):
                web.again()
            self.assertEqual(whole(web), whole(done(ROWS[:-2] + [deed])))
            web.back()
            self.assertEqual(undone(web), [deed])

    def test_again_is_no_other_deed(self):
        web = done(ROWS)
        for _ in range(3):
            web.back()
        web.again()
        self.assertEqual(undone(web), ROWS[-2:])

    def test_a_refused_deed_in_between(self):
        web = done(ROWS)
        web.back()
        web.back()
        before = whole(web)
        for refused in (lambda: web.put(None), lambda: web.like(A, "?x"), lambda: web.unlike(("f", "?x"), A),
                        lambda: web.all_done([("put", A), ("put", None)]), lambda: web.all_done([("put",)]),
                        lambda: web.all_done(None), lambda: web.alike(A, None), lambda: web.least(None)):
            with self.assertRaises(ValueError):
                refused()
            self.assertEqual(whole(web), before)
        web.again()
        web.again()
        self.assertEqual(web.log(), ROWS)

    def test_refused_ones_that_are_too_many_in_between(self):
        web = Web()
        for number in range(60):
            web.put(numbered(number))
        web.put(numbered(7))
        web.back()
        with self.assertRaises(TooMany):
            web.put(A)
        web.again()
        self.assertEqual(web.log()[-1], ("put", numbered(7)))
        web.back()
        web.back()
        web.put(A)
        self.assertEqual(len(web), 60)

    def test_the_fortieth_taken_back(self):
        web = Web()
        for _ in range(40):
            web.unlike(A, A)
        with self.assertRaises(TooMany):
            web.like(A, B)
        web.back()
        self.assertEqual(web.like(A, B), 40)
        with self.assertRaises(TooMany):
            web.unlike(A, A)

    def test_many_deeds_against_new_webs(self):
        chance = chances(50)
        for _ in range(15):
            web = Web()
            stand = []
            taken = []
            for _ in range(40):
                kind = chance.random()
                if kind < 0.35 and stand:
                    web.back()
                    taken.append(stand.pop())
                elif kind < 0.55 and taken:
                    web.again()
                    stand.append(taken.pop())
                elif kind < 0.6:
                    web = web.twin()
                elif kind >= 0.6:
                    row = some_row(chance)
                    web.all_done([row])
                    stand.append(row)
                    taken = []
                self.assertEqual(whole(web), whole(done(stand))[:-1] + (taken[::-1],))


class Logs(unittest.TestCase):
    def test_rows_that_stand(self):
        web = done(ROWS)
        self.assertEqual(web.log(), ROWS)
        web.back()
        self.assertEqual(web.log(), ROWS[:-1])

    def test_logs_lead_to_the_same_again(self):
        web = Web()
        web.all_done(done(ROWS).log())
        self.assertEqual(whole(web), whole(done(ROWS)))


class Twins(unittest.TestCase):
    def test_a_twin_tells_all_alike(self):
        web = done(ROWS)
        web.back()
        web.back()
        twin = web.twin()
        self.assertIsInstance(twin, Web)
        self.assertEqual(whole(twin), whole(web))
        self.assertIs(twin.alike(("f", A), ("f", B)), True)
        twin.again()
        twin.again()
        self.assertEqual(twin.log(), ROWS)

    def test_of_an_empty_web(self):
        self.assertEqual(whole(Web().twin()), whole(Web()))

    def test_its_own_deeds(self):
        web = done(ROWS)
        web.back()
        before = whole(web)
        twin = web.twin()
        twin.like(A, C)
        twin.put(D)
        self.assertEqual(whole(web), before)
        self.assertEqual(twin.log(), ROWS[:-1] + [("like", A, C), ("put", D)])
        for _ in range(len(twin.log())):
            twin.back()
        self.assertEqual(whole(web), before)

    def test_the_webs_own_deeds(self):
        web = done(ROWS)
        web.back()
        twin = web.twin()
        before = whole(twin)
        web.like(A, D)
        web.back()
        web.back()
        self.assertEqual(whole(twin), before)
        self.assertIs(twin.alike(A, D), False)

    def test_again_in_one_alone(self):
        web = done(ROWS)
        web.back()
        twin = web.twin()
        twin.again()
        self.assertEqual(web.log(), ROWS[:-1])
        web.again()
        self.assertEqual(web.log(), ROWS)


class AllDone(unittest.TestCase):
    def test_what_each_gives(self):
        web = Web()
        self.assertEqual(web.all_done(ROWS), [None, 1, 2, None, 3])
        self.assertEqual(whole(web), whole(done(ROWS)))
        self.assertEqual(web.all_done(deeds=[("unlike", A, A), ("put", A)]), [4, None])

    def test_a_tuple_of_rows(self):
        web = Web()
        self.assertEqual(web.all_done(tuple(ROWS)), [None, 1, 2, None, 3])
        self.assertEqual(web.log(), ROWS)
        self.assertEqual(web.all_done(()), [])

    def test_each_is_a_deed_of_its_own(self):
        web = Web()
        web.all_done(ROWS)
        web.back()
        web.back()
        self.assertEqual(web.log(), ROWS[:-2])
        self.assertEqual(undone(web), ROWS[-2:])

    def test_none_at_all(self):
        web = done(ROWS)
        web.back()
        before = whole(web)
        self.assertEqual(web.all_done([]), [])
        self.assertEqual(whole(web), before)
        web.again()
        self.assertEqual(web.log(), ROWS)

    def test_behind_it_nothing_can_be_done_again(self):
        web = done(ROWS)
        web.back()
        web.all_done([("put", A)])
        with self.assertRaises(NoDeed):
            web.again()

    def test_what_is_handed_in_is_not_kept(self):
        rows = list(ROWS)
        web = Web()
        web.all_done(rows)
        self.assertEqual(rows, ROWS)
        rows.clear()
        self.assertEqual(web.log(), ROWS)
        given = web.all_done([("put", A)])
        given.append(None)
        self.assertEqual(len(web.log()), len(ROWS) + 1)

    def refused(self, web, deeds, at):
        before = whole(web)
        with self.assertRaises(NoLog) as caught:
            web.all_done(deeds)
        self.assertEqual(caught.exception.at, at)
        self.assertEqual(whole(web), before)

    def test_a_hundred_and_one_more(self):
        web = done(ROWS)
        web.back()
        self.assertEqual(web.all_done([("put", A)] * 100), [None] * 100)
        self.assertEqual(len(web.log()), len(ROWS) - 1 + 100)
        web.back()
        self.refused(web, [("put", A)] * 101, 100)
        self.refused(web, (("put", A),) * 101, 100)
        self.refused(web, [("put", A)] * 3000, 100)
        self.refused(web, [("put", None)] * 101, 100)
        web.again()

    def test_a_wrong_row_where_there_are_more_than_a_hundred(self):
        rows = [("put", A)] * 110
        self.refused(Web(), rows[:40] + [()] + rows, 40)
        self.refused(Web(), rows[:99] + [("put",)] + rows, 99)
        self.refused(Web(), rows[:100] + [("put",)] + rows, 100)
        self.refused(Web(), rows[:105] + [("put",)], 100)

    def test_rows_of_another_word_or_length(self):
        wrong = [("puts", A), ("Put", A), ("", A), ("put",), ("put", A, B), ("like", A), ("like", A, B, C), ("like",),
                 ("unlike", A), ("unlike", A, B, C), ("back",), ("again",), ("told", A, B), (), (A,), (A, B), (None, A),
                 (1, A), (True, A), (["put"], A), ({}, A, B), ("put", A, A), ["put", A], ["like", A, B], "put", "pu",
                 "like", None, 0, True, [], {}, {"put": A}, A, ("f", A)]
        for row in wrong:
            web = done(ROWS)
            web.back()
            with self.subTest(row=row):
                self.refused(web, [row], 0)
                self.refused(web, [("put", D), ("like", A, D), row], 2)
                self.refused(web, [("put", D), row, ("put",), ("like", A, D)], 1)

    def test_wrong_rows_come_ahead_of_what_deeds_refuse(self):
        self.refused(Web(), [("put", None), ("like", A)], 1)
        self.refused(Web(), [("put", numbered(number)) for number in range(65)] + [("put",)], 65)

    def test_what_is_no_list(self):
        for thing in (None, True, False, 0, 3, "", "put", {}, {0: ("put", A)}, {"put": A}):
            with self.subTest(thing=thing):
                self.refused(done(ROWS), thing, 0)
        self.refused(Web(), ("put", A), 0)
        self.refused(Web(), "x" * 200, 0)

    def test_a_deed_that_is_refused_midway(self):
        for rows, refusal in (([("put", D), ("like", A, D), ("put", None)], BadTerm),
                              ([("like", D, A), ("unlike", "?x", A), ("put", D)], BadTerm),
                              ([("put", ["a"])], BadTerm),
                              ([("put", numbered(number)) for number in range(60)], TooMany),
                              ([("unlike", A, B)] * 39, TooMany),
                              ([("unlike", A, B)] * 39 + [("put", None)], TooMany),
                              ([("unlike", A, B)] * 37 + [("put", None)] + [("like", A, B)] * 5, BadTerm)):
            web = done(ROWS)
            web.back()
            before = whole(web)
            with self.assertRaises(refusal):
                web.all_done(rows)
            self.assertEqual(whole(web), before)
            self.assertIs(web.alike(A, D), False)
            web.again()
            self.assertEqual(whole(web), whole(done(ROWS)))
            for _ in ROWS:
                web.back()
            with self.assertRaises(NoDeed):
                web.back()

    def test_a_web_goes_on_behind_one_that_was_refused(self):
        web = Web()
        with self.assertRaises(BadTerm):
            web.all_done([("put", A), ("like", A, None)])
        self.assertEqual(whole(web), whole(Web()))
        self.assertEqual(web.like(A, B), 1)


if __name__ == "__main__":
    unittest.main()
