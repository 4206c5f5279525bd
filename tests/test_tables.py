"""[32] and [33]: tables.py."""

import unittest

from helpers import (A, B, C, D, NO_PATTERNS, chain, chances, inner_terms, numbered, slow_likeness, some_rows, some_term,
                     whole, wide)
from likematch.errors import BadTable, BadTerm, BadTerms, TooMany
from likematch.tables import is_table, keeps, table_of, value
from likematch.webs import Web

NO_TERMS = NO_PATTERNS + ("?x", ("f", "?x"), ("f", A, "?x"), wide(31), chain(6))
TABLE = (3, {("a", ()): 1, ("f", (1,)): 2, ("f", (1, 2)): 0, ("g", (0, 2, 1)): 1, ("f", ()): 2}, 0)
NO_TABLES = (
    None, True, False, 0, 1, "", "abc", [], (), {}, (1,), (1, {}), (1, {}, 0, 0), [1, {}, 0], (1, {}, None), (1, None, 0),
    (None, {}, 0), ({}, 0, 1), (0, {}, 0), (-1, {}, 0), (-1, {}, -1), (101, {}, 0), (10 ** 30, {}, 0), (True, {}, 0),
    ("1", {}, 0), ((1,), {}, 0), ([1], {}, 0), (1, {}, 1), (1, {}, -1), (1, {}, False), (2, {}, True), (2, {}, 2),
    (2, {}, "0"), (2, {}, [0]), (2, [], 0), (2, (), 0), (2, [(("a", ()), 0)], 0), (2, "", 0), (2, True, 0), A, ("f", A, B),
)
NO_KEYS = (
    None, True, 0, "a", "", (), ("a",), ("a", (), ()), ("", ()), ("A", ()), ("a1", ()), ("abcdefghi", ()), ("?x", ()),
    (None, ()), (1, ()), (True, ()), (("a",), ()), ("a", None), ("a", 0), ("a", True), ("a", ""), ("a", "f"), ((), "a"),
    ("a", (2,)), ("a", (-1,)), ("a", (0, 2)), ("a", (2, 0, 0)), ("a", (0, 0, 0, 0)), ("a", (None,)), ("a", (True,)),
    ("a", (False,)), ("a", (0, True)), ("a", ("0",)), ("a", ((0,),)), ("a", (10 ** 30,)), A, ("f", A), (0, 0),
)
NO_ELEMENTS = (None, True, False, -1, 2, 10 ** 30, "0", "", (), (0,), [0], [], {})


def web_behind(rows):
    web = Web()
    web.all_done(rows)
    return web


def web_of_terms(many):
    return web_behind([("put", numbered(number)) for number in range(many)])


class WhatIsATable(unittest.TestCase):
    def test_tables(self):
        for table in (TABLE, (1, {}, 0), (100, {}, 99), (2, {("abcdefgh", ()): 1}, 1), (2, {("f", (1, 1, 1)): 0}, 0)):
            self.assertIs(is_table(table), True)
        self.assertIs(is_table(thing=TABLE), True)

    def test_sizes(self):
        for size in range(1, 101):
            self.assertIs(is_table((size, {("f", (size - 1, 0)): size - 1}, size - 1)), True)
            self.assertIs(is_table((size, {}, size)), False)
            self.assertIs(is_table((size, {("f", (0, size)): 0}, 0)), False)
            self.assertIs(is_table((size, {("f", (0, 0)): size}, 0)), False)

    def test_what_is_none(self):
        for thing in NO_TABLES + NO_PATTERNS:
            with self.subTest(thing=thing):
                self.assertIs(is_table(thing), False)

    def test_keys_that_are_none(self):
        self.assertIs(is_table((2, {("a", ()): 0}, 0)), True)
        for key in NO_KEYS:
            with self.subTest(key=key):
                self.assertIs(is_table((2, {key: 0}, 0)), False)
                self.assertIs(is_table((2, {("b", ()): 0, key: 0, ("c", (1,)): 1}, 0)), False)

    def test_elements_that_are_none(self):
        for thing in NO_ELEMENTS:
            with self.subTest(thing=thing):
                self.assertIs(is_table((2, {("a", ()): thing}, 0)), False)
                self.assertIs(is_table((2, {("b", ()): 0, ("a", (0,)): thing}, 0)), False)
                self.assertIs(is_table((2, {("a", ()): 0}, thing)), False)

    def test_many_rows(self):
        rows = {("f", (one, other)): one for one in range(60) for other in range(60)}
        self.assertIs(is_table((60, rows, 0)), True)
        rows["f", (60, 0)] = 0
        self.assertIs(is_table((60, rows, 0)), False)


class WhatTermsAreWorth(unittest.TestCase):
    def test_values(self):
        for term, element in ((A, 1), (("f",), 2), (B, 0), (("f", A), 2), (("f", B), 0), (("f", A, ("f", A)), 0),
                              (("g", B, ("f", A), A), 1), (("g", B, ("f",), A), 1), (("g", B, A, A), 0),
                              (("f", ("g", B, ("f",), A)), 2), (("g",), 0), (chain(5), 0)):
            with self.subTest(term=term):
                found = value(TABLE, term)
                self.assertEqual(found, element)
                self.assertIs(type(found), int)
        self.assertEqual(value(term=A, table=TABLE), 1)

    def test_the_rest(self):
        for rest in range(3):
            table = (3, {("f", (rest,)): 1}, rest)
            self.assertEqual(value(table, A), rest)
            self.assertEqual(value(table, ("f", A)), 1)
            self.assertEqual(value(table, ("g", ("f", A))), rest)
        self.assertEqual(value((5, {}, 4), chain(5)), 4)

    def test_one_head_with_unlike_numbers_of_parts(self):
        table = (3, {("f", ()): 0, ("f", (0,)): 1, ("f", (0, 0)): 2}, 0)
        self.assertEqual([value(table, ("f",) + (("f",),) * many) for many in range(4)], [0, 1, 2, 0])

    def test_refused(self):
        for thing in NO_TABLES + ((2, {("a", (True,)): 0}, 0), (2, {("a", ()): 2}, 0)):
            for term in (A, None, "?x"):
                with self.subTest(thing=thing), self.assertRaises(BadTable):
                    value(thing, term)
        for term in NO_TERMS:
            with self.subTest(term=term), self.assertRaises(BadTerm):
                value(TABLE, term)


class WhatTablesKeep(unittest.TestCase):
    def test_kept_and_not(self):
        self.assertIs(keeps(TABLE, [(A, A)]), True)
        self.assertIs(keeps(TABLE, [(("f", A), ("f",)), (B, C)]), True)
        self.assertIs(keeps(TABLE, [(A, B)]), False)
        self.assertIs(keeps(TABLE, [(B, C), (A, B)]), False)
        self.assertIs(keeps(TABLE, [(A, B), (B, C)]), False)
        self.assertIs(keeps(TABLE, [(("f", A), ("f",)), (A, ("g", C, ("f",), A))]), True)
        self.assertIs(keeps(pairs=[(A, ("f", A))], table=TABLE), False)

    def test_no_pairs(self):
        self.assertIs(keeps(TABLE, []), True)
        self.assertIs(keeps(TABLE, ()), True)

    def test_a_tuple_of_pairs(self):
        self.assertIs(keeps(TABLE, ((B, C), (A, A))), True)
        self.assertIs(keeps(TABLE, ((B, C), (A, C))), False)

    def test_many_pairs(self):
        self.assertIs(keeps(TABLE, [(B, C)] * 2000), True)
        self.assertIs(keeps(TABLE, [(B, C)] * 2000 + [(A, C)]), False)

    def test_refused(self):
        wrong = [None, True, 0, 1, "", "ab", {}, {1: (A, B)}, {(A, B): 1}, A, ("f", A), (A, B), [A, B], [None], [()],
                 [(A,)], [(A, B, C)], [[A, B]], [(A, B), [A, B]], [(A, B), None], [(A, B), (B, "?x")], [((), ())]]
        for pairs in wrong:
            for table in (None, (2, {}, 2), [1, {}, 0]):
                with self.assertRaises(BadTable):
                    keeps(table, pairs)
            with self.subTest(pairs=pairs), self.assertRaises(BadTerms):
                keeps(TABLE, pairs)
        for term in NO_TERMS:
            for pair in ((A, term), (term, A), (term, term)):
                for pairs in ([pair], [(A, B), pair], [pair, (A, B)], (pair,)):
                    with self.assertRaises(BadTerms):
                        keeps(TABLE, pairs)

    def test_bad_table_of_all_that_is_none(self):
        for thing in NO_TABLES:
            for pairs in ([(A, B)], [], None):
                with self.assertRaises(BadTable):
                    keeps(thing, pairs)


class TablesOfWebs(unittest.TestCase):
    def test_an_empty_web(self):
        self.assertEqual(table_of(Web()), (1, {}, 0))

    def test_classes_in_order_and_the_rest(self):
        web = web_behind([("like", ("f", B), C), ("like", C, ("g", A)), ("put", D)])
        self.assertEqual(web.classes(), [[A], [B], [C, ("f", B), ("g", A)], [D]])
        table = table_of(web)
        self.assertEqual(table, (5, {("a", ()): 0, ("b", ()): 1, ("c", ()): 2, ("f", (1,)): 2, ("g", (0,)): 2,
                                     ("d", ()): 3}, 4))
        self.assertIs(type(table), tuple)
        self.assertIs(is_table(table), True)
        self.assertEqual(value(table, ("f", A)), 4)
        self.assertEqual(value(table, ("aa",)), 4)

    def test_like_terms_give_one_row(self):
        web = web_behind([("like", A, B), ("put", ("f", A)), ("put", ("f", B))])
        self.assertEqual(table_of(web), (3, {("a", ()): 0, ("b", ()): 0, ("f", (0,)): 1}, 2))
        self.assertEqual(value(table_of(web), ("f", B)), 1)

    def test_terms_within_the_ones_they_are_like(self):
        web = web_behind([("like", A, ("f", A))])
        self.assertEqual(table_of(web), (2, {("a", ()): 0, ("f", (0,)): 0}, 1))

    def test_more(self):
        web = web_behind([("like", A, B), ("put", D)])
        self.assertEqual(table_of(web, more=[("f", A)]),
                         (4, {("a", ()): 0, ("b", ()): 0, ("d", ()): 1, ("f", (0,)): 2}, 3))
        self.assertEqual(table_of(web, more=(C, ("f", B))),
                         (5, {("a", ()): 0, ("b", ()): 0, ("c", ()): 1, ("d", ()): 2, ("f", (0,)): 3}, 4))
        self.assertEqual(table_of(web, more=[A, B, D, A]), table_of(web))
        self.assertEqual(table_of(web, more=[]), table_of(web))
        self.assertEqual(table_of(web=web, more=()), table_of(web))
        self.assertEqual(table_of(Web(), more=[("f", A, B)]),
                         (4, {("a", ()): 0, ("b", ()): 1, ("f", (0, 1)): 2}, 3))

    def test_more_goes_by_name_alone(self):
        with self.assertRaises(TypeError):
            table_of(Web(), [A])

    def test_more_that_is_none(self):
        wrong = [None, True, 0, 1, "", "a", {}, {A: 1}, A, ("f", A), [A, B, C, D, A], (A,) * 5, [A] * 100, [None], [[A]],
                 [A, "?x"], [A, B, C, None]]
        for web in (Web(), web_of_terms(60)):
            for more in wrong + [[term] for term in NO_TERMS] + [(A, term) for term in NO_TERMS]:
                before = whole(web)
                with self.subTest(more=more), self.assertRaises(BadTerms):
                    table_of(web, more=more)
                self.assertEqual(whole(web), before)

    def test_as_many_as_may_stand_and_one_more(self):
        web = web_of_terms(60)
        table = table_of(web)
        self.assertEqual((table[0], len(table[1]), table[2]), (61, 60, 60))
        self.assertIs(is_table(table), True)
        self.assertEqual(table_of(web, more=[numbered(3)] * 4), table)
        for more in ([A], [numbered(0), A], [("f", numbered(0))]):
            with self.assertRaises(TooMany):
                table_of(web, more=more)
        web = web_of_terms(57)
        self.assertEqual(table_of(web, more=[("f", A), B])[0], 61)
        self.assertEqual(table_of(web, more=[A, A, B, C])[0], 61)
        for more in ([("f", A), B, C], [A, B, C, D], [("f", A, B, C)], [A, B, C, ("f", A)]):
            with self.assertRaises(TooMany):
                table_of(web, more=more)
        self.assertEqual(len(web), 57)

    def test_as_many_as_may_be_told(self):
        web = web_behind([("unlike", A, B)] * 39 + [("like", A, C)])
        self.assertEqual(table_of(web, more=[D]), (4, {("a", ()): 0, ("b", ()): 1, ("c", ()): 0, ("d", ()): 2}, 3))

    def test_nothing_is_changed_and_told_is_new(self):
        web = web_behind([("like", A, B), ("put", C), ("put", D)])
        web.back()
        web.back()
        before = whole(web)
        more = [("f", C)]
        table = table_of(web, more=more)
        self.assertEqual(whole(web), before)
        self.assertEqual(more, [("f", C)])
        table[1].clear()
        self.assertEqual(table_of(web, more=more), (4, {("a", ()): 0, ("b", ()): 0, ("c", ()): 1, ("f", (1,)): 2}, 3))
        web.again()
        self.assertEqual(table_of(web)[0], 3)

    def test_asking_changes_no_table(self):
        rows = {("a", ()): 0}
        table = (2, rows, 1)
        value(table, ("f", B))
        keeps(table, [(A, ("f", B))])
        self.assertIs(is_table(table), True)
        self.assertEqual(rows, {("a", ()): 0})

    def test_many_webs_against_the_slow_way(self):
        chance = chances(33)
        for _ in range(60):
            web = web_behind(some_rows(chance, chance.randrange(0, 8)))
            more = [some_term(chance) for _ in range(chance.randrange(0, 5))]
            pairs = list(web.told().values())
            alike = slow_likeness(web.terms() + more, pairs)
            world = {term for pair in alike for term in pair}
            table = table_of(web, more=more)
            self.assertIs(is_table(table), True)
            self.assertIs(keeps(table, pairs), True)
            for one in world:
                self.assertLess(value(table, one), table[2])
                for other in world:
                    self.assertIs(value(table, one) == value(table, other), (one, other) in alike)
            other_web = web.twin()
            for term in more:
                other_web.put(term)
            kinds = other_web.classes()
            self.assertEqual((table[0], table[2]), (len(kinds) + 1, len(kinds)))
            self.assertEqual([value(table, kind[0]) for kind in kinds], list(range(len(kinds))))
            self.assertEqual(table[1], {(term[0], tuple(value(table, part) for part in term[1:])): value(table, term)
                                        for term in world})

    def test_each_two_unlike_ones_have_a_table_that_parts_them(self):
        chance = chances(34)
        for _ in range(40):
            web = web_behind(some_rows(chance, 6))
            pairs = list(web.told().values())
            for _ in range(8):
                one, other = some_term(chance), some_term(chance)
                table = table_of(web, more=[one, other])
                self.assertIs(keeps(table, pairs), True)
                self.assertIs(keeps(table, [(one, other)]), web.alike(one, other))

    def test_terms_beyond_are_the_rest(self):
        web = web_behind([("like", A, ("f", B))])
        table = table_of(web)
        for term in (C, ("g", A), ("f", A, A), ("f", ("f", A)), wide(30)):
            self.assertNotIn(term, inner_terms(("f", B)))
            self.assertEqual(value(table, term), table[2])


class BehindDeeds(unittest.TestCase):
    def test_taken_back_and_done_again(self):
        web = web_behind([("put", ("f", A)), ("put", ("f", B)), ("like", A, B)])
        joined = table_of(web)
        self.assertEqual(joined[0], 3)
        web.back()
        self.assertEqual(table_of(web), table_of(web_behind(web.log())))
        self.assertEqual(table_of(web)[0], 5)
        web.again()
        self.assertEqual(table_of(web), joined)

    def test_many_rows_of_deeds(self):
        chance = chances(35)
        web = Web()
        for _ in range(120):
            kind = chance.random()
            if kind < 0.45 and web.log():
                web.back()
            elif kind < 0.55:
                web = web.twin()
            else:
                web.all_done(some_rows(chance, 1))
            self.assertEqual(table_of(web, more=[("f", A)]), table_of(web_behind(web.log()), more=[("f", A)]))
            self.assertEqual(table_of(web.twin()), table_of(web))


if __name__ == "__main__":
    unittest.main()
