"""[51] (web_of): logs.py."""

import unittest

from helpers import A, B, C, D, NO_PATTERNS, all_of, chances, numbered, some_rows, some_term, undone, whole
from likematch.clashes import clash
from likematch.errors import BadTerm, NoDeed, NoLog, TooMany
from likematch.logs import web_of
from likematch.papers import paper_of
from likematch.tables import table_of
from likematch.webs import Web

ROWS = [("put", ("f", A)), ("like", A, B), ("unlike", C, ("f", B)), ("put", A), ("like", C, C)]


class LogsDoneAnew(unittest.TestCase):
    def test_a_log(self):
        web = web_of(ROWS)
        self.assertIsInstance(web, Web)
        self.assertEqual(web.log(), ROWS)
        self.assertEqual(web.terms(), [A, B, C, ("f", A), ("f", B)])
        self.assertEqual(web.told(), {1: (A, B), 3: (C, C)})
        self.assertEqual(web.parted(), {2: (C, ("f", B))})
        self.assertIs(web.alike(("f", A), ("f", B)), True)

    def test_by_name_and_a_tuple(self):
        self.assertEqual(whole(web_of(log=ROWS)), whole(web_of(ROWS)))
        self.assertEqual(whole(web_of(tuple(ROWS))), whole(web_of(ROWS)))

    def test_no_rows(self):
        for log in ([], ()):
            self.assertEqual(whole(web_of(log)), whole(Web()))

    def test_the_deeds_can_be_taken_back_and_done_again(self):
        web = web_of(ROWS)
        with self.assertRaises(NoDeed):
            web.again()
        for many in range(len(ROWS) - 1, -1, -1):
            web.back()
            self.assertEqual(all_of(web), all_of(web_of(ROWS[:many])))
        with self.assertRaises(NoDeed):
            web.back()
        self.assertEqual(undone(web), ROWS)

    def test_a_hundred_rows(self):
        rows = [("put", numbered(number)) for number in range(60)] + [("like", numbered(0), numbered(1))] * 40
        web = web_of(rows)
        self.assertEqual(web.log(), rows)
        self.assertEqual((len(web), len(web.told())), (60, 40))

    def test_a_web_of_its_own(self):
        web = web_of(ROWS)
        other = web_of(web.log())
        before = whole(web)
        other.like(A, D)
        other.back()
        other.back()
        self.assertEqual(whole(web), before)
        rows = list(ROWS)
        web = web_of(rows)
        rows.clear()
        self.assertEqual(web.log(), ROWS)

    def test_nothing_handed_in_is_changed(self):
        rows = list(ROWS)
        web_of(rows).back()
        self.assertEqual(rows, ROWS)

    def test_many_logs_lead_to_the_same_again(self):
        chance = chances(51)
        for _ in range(40):
            web = Web()
            for row in some_rows(chance, 12):
                web.all_done([row])
                if chance.random() < 0.3:
                    web.back()
            other = web_of(web.log())
            self.assertEqual(all_of(other), all_of(web))
            self.assertEqual(undone(other), [])
            self.assertEqual(table_of(other), table_of(web))
            self.assertEqual(clash(other), clash(web))
            for kind in web.classes():
                self.assertEqual(paper_of(other, kind[0], kind[-1]), paper_of(web, kind[0], kind[-1]))
            for _ in range(20):
                one, another = some_term(chance), some_term(chance)
                self.assertIs(other.alike(one, another), web.alike(one, another))
                self.assertEqual(other.least(one), web.least(one))


class Refused(unittest.TestCase):
    def no_log(self, log, at):
        with self.subTest(log=str(log)[:100]), self.assertRaises(NoLog) as caught:
            web_of(log)
        self.assertEqual(caught.exception.at, at)

    def test_what_is_no_list(self):
        for thing in (None, True, False, 0, 7, "", "put", {}, {0: ("put", A)}, ("put", A)):
            self.no_log(thing, 0)

    def test_rows_of_another_word_or_length(self):
        for row in ((), ("puts", A), ("put",), ("put", A, B), ("like", A), ("unlike", A, B, C), ("back",), ["put", A],
                    "put", None, 0, True, {}, A, (["put"], A), (None, A)):
            self.no_log([row], 0)
            self.no_log(ROWS + [row], len(ROWS))
            self.no_log([("put", None), row], 1)
            self.no_log((("put", A), row, ("put",)), 1)

    def test_more_than_a_hundred(self):
        self.no_log([("put", A)] * 101, 100)
        self.no_log([("put", None)] * 5000, 100)
        self.no_log([("put", A)] * 99 + [("put",)] * 5, 99)
        self.no_log([("put", A)] * 100 + [("put",)], 100)

    def test_what_deeds_refuse(self):
        for thing in NO_PATTERNS + ("?x", ("f", "?x")):
            for row in (("put", thing), ("like", thing, A), ("like", A, thing), ("unlike", thing, thing)):
                with self.assertRaises(BadTerm):
                    web_of([("put", A), row, ("put", B)])
        with self.assertRaises(TooMany):
            web_of([("put", numbered(number)) for number in range(61)])
        with self.assertRaises(TooMany):
            web_of([("like", A, B)] * 20 + [("unlike", A, B)] * 21)

    def test_the_first_one_refused_comes_first(self):
        puts = [("put", numbered(number)) for number in range(61)]
        with self.assertRaises(TooMany):
            web_of(puts + [("put", None)])
        with self.assertRaises(BadTerm):
            web_of(puts[:60] + [("put", None)] + puts[:39])
        with self.assertRaises(BadTerm):
            web_of(puts[:60] + [("put", None), ("put", A)])


if __name__ == "__main__":
    unittest.main()
