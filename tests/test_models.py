"""[110] and [111]: models.py."""

import itertools
import unittest

from helpers import (A, B, C, D, NO_PATTERNS, chain, chances, holes_told, lively_rules, numbered, rule_of, some_rows,
                     some_small_pattern, web_behind, web_of_texts, whole, wide)
from likematch.errors import BadRule, BadRules, BadTable, BadTerms, MatchError, NoCover, TooMany
from likematch.models import holds, model_of
from likematch.rounds import Rounds
from likematch.rules import Rule
from likematch.tables import is_table, keeps, table_of, value
from likematch.webs import Web

NO_TABLES = (None, True, 0, "", [], {}, (), (1, {}), [1, {}, 0], (0, {}, 0), (101, {}, 0), (2, {}, 2), (2, {}, True),
             (2, {("f", (2,)): 0}, 0), (2, {("f", (0,)): 2}, 0), (2, {("F", ()): 0}, 0), (2, {"f": 0}, 0), (True, {}, 0), A)
SUM = (3, {("f", (one, other)): (one + other) % 3 for one in range(3) for other in range(3)}, 0)


def worth(table, pattern, worths):
    """What a pattern is worth, told plainly."""
    if isinstance(pattern, str):
        return worths[pattern]
    return table[1].get((pattern[0], tuple(worth(table, part, worths) for part in pattern[1:])), table[2])


def holds_slowly(table, rule):
    """Whether the rule holds: all that may be in its holes tried one by one."""
    holes = holes_told([rule.one, rule.other] + [pattern for pair in rule.when for pattern in pair])
    for row in itertools.product(range(table[0]), repeat=len(holes)):
        worths = dict(zip(holes, row))
        if all(worth(table, one, worths) == worth(table, other, worths) for one, other in rule.when):
            if (worth(table, rule.one, worths) == worth(table, rule.other, worths)) == rule.apart:
                return False
    return True


def model_slowly(web, rules, more=()):
    size, rows, _ = table_of(web, more=more)
    for rest in range(size):
        table = (size, rows, rest)
        if all(worth(table, one, {}) == worth(table, other, {}) for one, other in web.told().values()):
            if all(worth(table, one, {}) != worth(table, other, {}) for one, other in web.parted().values()):
                if all(holds_slowly(table, rule) for rule in rules):
                    return table
    return None


class Holds(unittest.TestCase):
    def test_plain_rules(self):
        self.assertIs(holds(SUM, rule_of("r", "f(?x,?y)=f(?y,?x)")), True)
        self.assertIs(holds(SUM, rule_of("r", "f(f(?x,?y),?z)=f(?x,f(?y,?z))")), True)
        self.assertIs(holds(SUM, rule_of("r", "f(?x,?x)=?x")), False)
        self.assertIs(holds(SUM, rule_of("r", "f(?x,z)=?x")), True)
        self.assertIs(holds(SUM, rule_of("r", "f(?x,f(?x,?x))=z")), True)
        self.assertIs(holds(SUM, rule_of("r", "f(?x,?y)=?x", triggers=[("f", "?x", "?y")])), False)

    def test_only_the_last_worths_may_break_it(self):
        for size in (2, 5):
            rows = {("f", (at,)): at for at in range(size)}
            rule = rule_of("r", "f(?x)=?x")
            self.assertIs(holds((size, rows, 0), rule), True)
            for at in range(size):
                self.assertIs(holds((size, {**rows, ("f", (at,)): (at + 1) % size}, 0), rule), False)

    def test_conditions(self):
        self.assertIs(holds(SUM, rule_of("r", "?x=?y", "f(?x,?z)=f(?y,?z)")), True)
        self.assertIs(holds(SUM, rule_of("r", "?x=z", "f(?x,?x)=?x")), True)
        self.assertIs(holds(SUM, rule_of("r", "?x=?y", "f(?x,?y)=z")), False)
        self.assertIs(holds(SUM, rule_of("r", "?x=?y", "f(?x,?y)=z", "f(?x,?x)=f(?y,?y)")), True)
        self.assertIs(holds(SUM, rule_of("r", "f(?x,?y)=?x", "f(?x,?y)=?y", "?x=?y")), True)
        self.assertIs(holds((2, {("b", ()): 1}, 0), rule_of("r", "a=b", "a=b")), True)
        self.assertIs(holds((2, {("b", ()): 1}, 0), rule_of("r", "a=b", "a=a")), False)

    def test_apart(self):
        table = (2, {("f", (0,)): 1, ("f", (1,)): 0}, 0)
        self.assertIs(holds(table, rule_of("r", "f(?x)=?x", apart=True)), True)
        self.assertIs(holds(table, rule_of("r", "f(?x)=?x")), False)
        self.assertIs(holds(table, rule_of("r", "f(f(?x))=?x", apart=True)), False)
        self.assertIs(holds(table, rule_of("r", "f(?x)=?y", "?x=?y", apart=True, triggers=[("f", "?x", "?y")])), True)
        self.assertIs(holds(table, rule_of("r", "f(?x)=a", apart=True)), False)
        self.assertIs(holds(table, rule_of("r", "f(?x)=a", "?x=a", apart=True)), True)

    def test_without_holes(self):
        table = (3, {("a", ()): 1, ("b", ()): 1, ("c", ()): 2}, 0)
        self.assertIs(holds(table, rule_of("r", "a=b")), True)
        self.assertIs(holds(table, rule_of("r", "a=c")), False)
        self.assertIs(holds(table, rule_of("r", "a=c", apart=True)), True)
        self.assertIs(holds(table, rule_of("r", "a=b", apart=True)), False)
        self.assertIs(holds(table, rule_of("r", "a=c", "a=d")), True)
        self.assertIs(holds((100, {}, 99), rule_of("r", "a=f(b)")), True)

    def test_what_is_worth_the_rest(self):
        self.assertIs(holds((2, {("f", (0,)): 0}, 1), rule_of("r", "f(?x)=?x")), True)
        self.assertIs(holds((2, {("f", (0,)): 0}, 0), rule_of("r", "f(?x)=?x")), False)
        self.assertIs(holds((2, {("f", (0,)): 0}, 1), rule_of("r", "f(f(?x))=f(?x)")), True)

    def test_triggers_count_for_nothing(self):
        for triggers in (None, [("f", "?x")], [("k", ("k", "?x")), A]):
            self.assertIs(holds(SUM, rule_of("r", "f(?x,z)=?x", triggers=triggers)), True)
            self.assertIs(holds(SUM, rule_of("r", "f(?x,?x)=?x", triggers=triggers)), False)

    def test_sizes_just_below_and_just_above(self):
        rules = {1: rule_of("r", "f(?x)=f(?x)"), 2: rule_of("r", "f(?x,?y)=f(?x,?y)"),
                 3: rule_of("r", "f(?x,?y,?z)=f(?x,?y,?z)"), 4: rule_of("r", "f(?x,?y,?z)=f(?w)")}
        for many, least in ((3, 28), (4, 12)):
            self.assertLessEqual((least - 1) ** many, 20000)
            self.assertGreater(least ** many, 20000)
            self.assertIs(holds((least - 1, {}, 0), rules[many]), True)
            with self.assertRaises(TooMany):
                holds((least, {}, 0), rules[many])
        self.assertIs(holds((100, {}, 99), rules[1]), True)
        self.assertIs(holds((100, {}, 99), rules[2]), True)
        with self.assertRaises(TooMany):
            holds((100, {}, 99), rules[3])

    def test_refused_in_this_order(self):
        big = rule_of("r", "f(?x,?y,?z)=f(?w)")
        for thing in NO_TABLES:
            for rule in (big, None, rule_of("r", "a=b")):
                with self.subTest(thing=thing), self.assertRaises(BadTable):
                    holds(thing, rule)
        for thing in NO_PATTERNS + (("r", A, B), ("r", A, B, (), False, []), [big]):
            for table in (SUM, (100, {}, 0)):
                with self.assertRaises(BadRule):
                    holds(table, thing)
        with self.assertRaises(TooMany):
            holds((100, {}, 0), big)

    def test_by_name_and_nothing_is_changed(self):
        rule = rule_of("r", "f(?x,?y)=f(?y,?x)")
        before = repr(SUM)
        self.assertIs(holds(table=SUM, rule=rule), True)
        self.assertEqual(repr(SUM), before)

    def test_all_worths_tried_one_by_one(self):
        chance = chances(110)
        found = {True: 0, False: 0}
        for _ in range(500):
            size = chance.randrange(1, 4)
            rows = {(head, row): chance.randrange(size) for head, many in (("f", 1), ("g", 2), ("a", 0), ("b", 0), ("g", 1))
                    for row in itertools.product(range(size), repeat=many) if chance.random() < 0.8}
            table = (size, rows, chance.randrange(size))
            pick = [some_small_pattern(chance) for _ in range(4)]
            try:
                rule = Rule("r", pick[0], pick[1], when=[tuple(pick[2:])][:chance.randrange(2)],
                            apart=chance.random() < 0.4)
            except NoCover:
                continue
            expected = holds_slowly(table, rule)
            self.assertIs(holds(table, rule), expected, (table, pick))
            found[expected] += 1
        self.assertGreater(min(found.values()), 80)


class ModelOf(unittest.TestCase):
    def test_without_rules_the_rest_is_the_first_element(self):
        web = web_of_texts("a=b", "f(c)", "a!c")
        size, rows, rest = table_of(web)
        self.assertEqual((size, rest), (4, 3))
        self.assertEqual(model_of(web, []), (4, rows, 0))
        self.assertEqual(model_of(Web(), []), (1, {}, 0))
        self.assertTrue(is_table(model_of(web, ())))

    def test_the_least_rest(self):
        web = web_of_texts("a", "b", "f(b)=b")
        size, rows, _ = table_of(web)
        self.assertEqual(model_of(web, [rule_of("r", "f(f(?x))=f(?x)")]), (size, rows, 0))
        self.assertEqual(model_of(web, [rule_of("r", "f(?x)=b")]), (size, rows, 1))
        self.assertEqual(model_of(web, [rule_of("r", "f(f(?x))=f(?x)"), rule_of("s", "f(?x)=a", apart=True)]),
                         (size, rows, 1))
        self.assertIsNone(model_of(web, [rule_of("r", "f(?x)=b"), rule_of("s", "f(?x)=b", apart=True)]))
        self.assertEqual(model_of(web, [rule_of("r", "c=a", apart=True)]), (size, rows, 1))
        self.assertEqual(model_of(web, [rule_of("r", "c=a", apart=True), rule_of("s", "c=b", apart=True)]), (size, rows, 2))
        self.assertEqual(model_of(web, [rule_of("r", "c=b")]), (size, rows, 1))

    def test_none_where_a_rule_holds_by_no_rest(self):
        web = web_of_texts("f(a)", "b")
        self.assertIsNone(model_of(web, [rule_of("r", "f(?x)=?x")]))
        self.assertIsNone(model_of(web, [rule_of("r", "a=b")]))
        self.assertIsNone(model_of(Web(), [rule_of("r", "a=b", apart=True)]))

    def test_none_where_two_that_were_told_unlike_are_alike(self):
        for texts in (("a=b", "a!b"), ("a!a",), ("f(a)!f(b)", "c", "a=b")):
            self.assertIsNone(model_of(web_of_texts(*texts), []))
            self.assertIsNone(model_of(web_of_texts(*texts), [rule_of("r", "f(?x)=f(?x)")]))
        self.assertIsNotNone(model_of(web_of_texts("f(a)!f(b)", "c", "a=c"), []))

    def test_more_as_in_table_of(self):
        web = web_of_texts("f(a)", "a=b")
        more = [("f", C), ("g", B)]
        table = model_of(web, [], more=more)
        self.assertEqual(table[:2], table_of(web, more=more)[:2])
        self.assertEqual(table[0], 6)
        self.assertNotEqual(value(table, ("f", C)), value(table, ("f", A)))
        self.assertEqual(model_of(web, [], more=tuple(more)), table)
        self.assertEqual(model_of(web, [], more=()), model_of(web, []))
        # What comes with more may break a rule that holds without it.
        rule = rule_of("r", "g(?x)=?x")
        self.assertIsNone(model_of(web, [rule], more=[("g", B)]))
        with self.assertRaises(TypeError):
            model_of(web, [], more)

    def test_refused_in_this_order(self):
        web = web_of_texts("f(a)", "a!a")
        full = web_behind([("put", numbered(at)) for at in range(60)])
        big = rule_of("big", "f(?x,?y,?z)=f(?w)")
        for rules in (None, True, "", {}, big, [big, big], [None], [rule_of("r" + "abcdefghi"[at], "a=b") for at in range(9)]):
            for more in ((), None):
                with self.assertRaises(BadRules):
                    model_of(full, rules, more=more)
        for more in (None, True, 1, "a", {}, A, [A] * 5, [None], ["?x"], [("f", "?x")], [wide(31)], [chain(6)], [[A]]):
            for rules in ([], [big]):
                with self.assertRaises(BadTerms):
                    model_of(full, rules, more=more)
        with self.assertRaises(TooMany):
            model_of(full, [], more=[A])
        self.assertEqual(model_of(full, [], more=[numbered(3)])[0], 61)
        with self.assertRaises(TooMany):
            model_of(full, [big])

    def test_too_many_ahead_of_none(self):
        many = web_behind([("unlike", A, A)] + [("put", numbered(at)) for at in range(26)])
        three, apart = rule_of("three", "f(?x,?y,?z)=a"), rule_of("r", "a=a", apart=True)
        for rules in ([three], [apart, three], [three, apart]):
            with self.assertRaises(TooMany):
                model_of(many, rules)
        many.back()
        self.assertIsNone(model_of(many, [apart, three]))
        # More counts, too.
        with self.assertRaises(TooMany):
            model_of(many, [apart, three], more=[B])

    def test_by_name_and_nothing_is_changed(self):
        web = web_of_texts("f(a)", "a=b", "c")
        web.back()
        before = whole(web)
        more = [D]
        table = model_of(web=web, rules=[rule_of("r", "f(?x)=f(?x)")], more=more)
        table[1].clear()
        self.assertEqual(whole(web), before)
        self.assertEqual(more, [D])
        self.assertNotEqual(model_of(web, [], more=more)[1], {})

    def test_all_rests_tried_and_what_is_parted_is_reached_by_no_rounds(self):
        chance = chances(111)
        none = found = parted = 0
        for _ in range(200):
            web = web_behind(some_rows(chance, chance.randrange(1, 5)))
            rules = lively_rules(chance, chance.choice((0, 0, 1)))[:chance.randrange(1, 3)]
            more = chance.choice(((), [D], [("f", D), ("g", A)]))
            if len(web) > 12:
                continue
            table = model_of(web, rules, more=more)
            self.assertEqual(table, model_slowly(web, rules, more), (web.log(), rules))
            none += table is None
            if table is not None:
                found += 1
                self.assertTrue(keeps(table, list(web.told().values())))
                self.assertTrue(all(holds(table, rule) for rule in rules))
                rounds = Rounds(web, rules)
                try:
                    rounds.run(4)
                except MatchError:
                    pass
                reached = rounds.reached()
                self.assertTrue(keeps(table, list(reached.told().values())))
                for one, other in itertools.combinations(reached.terms() + list(more), 2):
                    if value(table, one) != value(table, other):
                        parted += 1
                        self.assertFalse(reached.alike(one, other))
        self.assertGreater(none, 50)
        self.assertGreater(found, 20)
        self.assertGreater(parted, 100)


if __name__ == "__main__":
    unittest.main()
