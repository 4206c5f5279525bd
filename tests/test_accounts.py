"""[100] and [101]: accounts.py."""

import itertools
import unittest

from helpers import (A, B, C, D, NO_PATTERNS, chain, chances, judged, lively_rules, numbered, put_in, rule_of, some_rows,
                     web_behind, web_of_texts, whole, wide)
from likematch.accounts import account_of, shown, used
from likematch.errors import BadRules, BadTerm, MatchError, NotReached
from likematch.rounds import Rounds
from likematch.rules import Rule
from likematch.texts import read_pattern
from likematch.webs import Web

FA, FB, GA, GB = ("f", A), ("f", B), ("g", A), ("g", B)
X_A, X_B = (("?x", A),), (("?x", B),)
TOLD = {1: (A, B), 3: (GA, C)}
RULES = [rule_of("step", "f(?x)=g(?x)"), rule_of("cond", "f(?x)=?y", "g(?x)=?y", "?x=b", triggers=[("f", "?x"), ("g", "?y")]),
         rule_of("apart", "f(?x)=c", apart=True), rule_of("ground", "c=d")]
GOOD = ([("step", X_A, []),
         ("cond", (("?x", A), ("?y", C)), [[("told", 3)], [("told", 1)]]),
         ("ground", (), [])],
        [("told", 1001), ("back", 0), ("told", 1002), ("then", 1, 2), ("told", 1003), ("then", 3, 4)])


def changed(account, at, thing):
    """The account with another thing at this place, told by the ways into it."""
    if not at:
        return thing
    parts = list(account)
    parts[at[0]] = changed(parts[at[0]], at[1:], thing)
    return type(account)(parts)


class Shown(unittest.TestCase):
    def none(self, account, told=TOLD, rules=RULES):
        with self.subTest(account=account):
            self.assertIsNone(shown(told, rules, account))

    def test_no_steps(self):
        self.assertEqual(shown(TOLD, RULES, ([], [("told", 1)])), (A, B))
        self.assertEqual(shown(TOLD, [], ([], [("told", 1), ("parts", "f", (0,))])), (FA, FB))
        self.assertEqual(shown({}, [], ([], [("same", D)])), (D, D))
        self.none(([], []))
        self.none(([], [("told", 2)]))
        self.none(([], [("told", 1001)]))

    def test_one_step(self):
        self.assertEqual(shown({}, RULES, ([("step", X_A, [])], [("told", 1001)])), (FA, GA))
        self.assertEqual(shown({}, RULES, ([("ground", (), [])], [("told", 1001), ("back", 0)])), (D, C))
        self.assertEqual(shown({}, RULES, ([("step", X_A, [])], [("same", A)])), (A, A))
        self.none(([("step", X_A, [])], [("told", 1002)]))
        self.none(([("step", X_A, [])], [("told", 1000)]))

    def test_steps_that_lean_on_steps_ahead(self):
        self.assertEqual(shown(TOLD, RULES, GOOD), (GA, D))
        steps = [("step", X_B, []), ("cond", (("?x", B), ("?y", FB)), [[("told", 1001), ("back", 0)], [("same", B)]])]
        self.assertEqual(shown({}, RULES, (steps, [("told", 1002)])), (FB, FB))
        self.none((steps[::-1], [("told", 1002)]), {})
        self.none((steps[1:], [("told", 1001)]), {})
        # No step leans on itself, nor on one behind it.
        for number in (1002, 1003):
            self.none((changed(steps, (1, 2, 0, 0), ("told", number)) + steps[:1], [("told", 1002)]), {})

    def test_tuples_may_stand_for_lists(self):
        steps, paper = GOOD
        tuples = tuple((name, filling, tuple(tuple(one) for one in papers)) for name, filling, papers in steps)
        self.assertEqual(shown(TOLD, tuple(RULES), (tuples, tuple(paper))), (GA, D))

    def test_by_name_and_nothing_is_changed(self):
        before = repr((TOLD, GOOD))
        self.assertEqual(shown(told=TOLD, rules=RULES, account=GOOD), (GA, D))
        self.assertEqual(used(account=GOOD), ([1, 3], [0, 1, 2]))
        self.assertEqual(repr((TOLD, GOOD)), before)

    def test_things_that_are_no_account(self):
        for thing in NO_PATTERNS + ([[], [("told", 1)]], ([],), ([], [("told", 1)], []), ([], None), (None, [("told", 1)]),
                                    ({}, [("told", 1)]), ("", [("told", 1)]), ([None], [("told", 1)]), ([], "told"),
                                    ([], ("told", 1)), ([], {}), ([()], [("told", 1)]), ([[]], [("told", 1)])):
            self.none(thing)
        for thing in NO_PATTERNS:
            for at in ((0,), (1,), (0, 0), (0, 0, 0), (0, 1, 1), (0, 1, 1, 0), (0, 1, 2), (0, 1, 2, 0), (0, 1, 2, 1), (1, 0)):
                self.none(changed(GOOD, at, thing))

    def test_spoilt_steps(self):
        for at, things in {
            (0, 0): (["step", X_A, []], ("step", X_A), ("step", X_A, [], []), (["step"], X_A, []), ({}, X_A, [])),
            (0, 0, 0): ("steps", "cond", "apart", "ground", ["step"], ("step",)),
            (0, 1, 1): (list(GOOD[0][1][1]), GOOD[0][1][1][::-1], GOOD[0][1][1][:1], GOOD[0][1][1] + (("?z", A),),
                        GOOD[0][1][1] + (("?y", C),), (("?x", A), ("?x", C)), (("?x", A), ("?z", C)), ("?x", "?y"),
                        {"?x": A, "?y": C}, (("?x", A), ["?y", C]), (("?x", A), ("?y", C, C)), (("?x", A), ("?y",))),
            (0, 1, 1, 0, 1): ("?x", ("f", "?x"), wide(31), chain(6), B, FA),
            (0, 1, 1, 1, 1): (D, GA),
            (0, 1, 2): ([], [[("told", 3)]], [[("told", 1)], [("told", 3)]], [[("told", 3)], [("told", 1)], [("told", 1)]],
                        {}, [("told", 3)]),
            (0, 1, 2, 0): ([("told", 2)], [("told", 1)], [("told", 3), ("back", 0)], [("told", 1002)], [("told", 1003)],
                           [("told", 1001), ("then", 0, 0)], [("same", GA)], [("told", 3.0)]),
            (0, 0, 2): ([[("told", 1)]], [[]]),
            (0, 2, 1): (X_A, ((),), [], None, ("?x", A)),
            (1,): ([("told", 1004)], [("told", 2)], [("told", 1001), ("then", 0, 0)], [("told", 1001), ("told", 2)], []),
        }.items():
            for thing in things:
                self.none(changed(GOOD, at, thing))

    def test_spoilt_by_what_was_told_or_by_the_rules(self):
        self.none(GOOD, {1: (A, B)})
        self.none(GOOD, {3: (GA, C)})
        self.none(GOOD, {1: (B, A), 3: (GA, C)})
        self.none(GOOD, {1: [A, B], 3: (GA, C)})
        self.none(GOOD, {1: (A, "?x"), 3: (GA, C)})
        for at in (0, 1, 3):
            self.none(GOOD, TOLD, RULES[:at] + RULES[at + 1:])
        self.assertEqual(shown(TOLD, RULES[:2] + RULES[3:], GOOD), (GA, D))
        self.none(GOOD, TOLD, [rule_of("step", "f(?x)=g(?x)", apart=True)] + RULES[1:])
        self.none(GOOD, TOLD, [rule_of("step", "f(?y)=g(?y)")] + RULES[1:])
        self.none(GOOD, TOLD, [rule_of("step", "f(?x)=g(?x)", "?x=?x")] + RULES[1:])
        self.none(GOOD, TOLD, [rule_of("step", "g(?x)=f(?x)")] + RULES[1:])

    def test_tellings_bear_numbers_to_1000(self):
        self.assertEqual(shown({1000: (A, B)}, RULES, ([], [("told", 1000)])), (A, B))
        self.none(([], [("told", 1001)]), {1001: (A, B)})
        self.none(([], [("told", 0)]), {0: (A, B)})
        self.assertEqual(shown({1001: (A, B)}, RULES, ([("step", X_A, [])], [("told", 1001)])), (FA, GA))

    def test_filled_patterns_beyond_the_bounds(self):
        deep = chain(5, head="k")
        self.none(([("step", (("?x", deep),), [])], [("same", A)]))
        self.none(([("step", (("?x", wide(30)),), [])], [("same", A)]))
        rules = [rule_of("r", "?x=a", "f(?x)=f(?x)", triggers=[("f", "?x")])]
        row = [("same", deep), ("parts", "f", (0,))]
        self.none(([("r", (("?x", deep),), [row])], [("same", A)]), {}, rules)
        self.none(([("r", (("?x", deep),), [row[:1]])], [("same", A)]), {}, rules)
        self.assertEqual(shown({}, rules, ([("r", (("?x", deep[1]),), [[("same", deep[1]), ("parts", "f", (0,))]])],
                                           [("told", 1001)])), (deep[1], A))

    def test_forty_steps_and_one_more(self):
        for many in (40, 41):
            account = ([("step", X_A, [])] * many, [("told", 1000 + many)])
            self.assertEqual(shown({}, RULES, account), (FA, GA) if many == 40 else None)

    def test_papers_of_20000_rows_and_more(self):
        for many in (20000, 20001):
            long = [("told", 3)] * many
            account = changed(GOOD, (0, 1, 2, 0), long)
            self.assertEqual(shown(TOLD, RULES, account), (GA, D) if many == 20000 else None)
            account = changed(GOOD, (1,), [("same", A)] * (many - 6) + [
                row if row[0] == "told" else row[:1] + tuple(at + many - 6 for at in row[1:]) for row in GOOD[1]])
            self.assertEqual(shown(TOLD, RULES, account), (GA, D) if many == 20000 else None)

    def test_bad_rules_ahead_of_all(self):
        for rules in (None, True, "", {}, RULES[0], [None], [RULES[0], RULES[0]], [1], ["step"],
                      [rule_of("r" + "abcdefghi"[at], "a=b") for at in range(9)]):
            for account in (GOOD, None, ([], [])):
                with self.assertRaises(BadRules):
                    shown(TOLD, rules, account)
        self.assertEqual(shown(TOLD, [rule_of("r" + "abcdefgh"[at], "a=b") for at in range(8)], ([], [("told", 1)])), (A, B))


def counting_web(told, steps):
    """A web in which all of these tellings, and those of the steps that count, were told."""
    web = Web()
    for one, other in told.values():
        web.like(one, other)
    for when, pair in steps:
        if all(web.alike(one, other) for one, other in when):
            web.like(*pair)
    return web


def step_pairs(rules, step):
    """What a step needs, and what it tells."""
    name, filling, _ = step
    rule, = [rule for rule in rules if rule.name == name]
    fill = dict(filling)
    return ([(put_in(one, fill), put_in(other, fill)) for one, other in rule.when],
            (put_in(rule.one, fill), put_in(rule.other, fill)))


class AccountOf(unittest.TestCase):
    def right_account(self, told, rounds, one, other):
        """An account of these two, of which all is as it is told to be."""
        account = account_of(rounds, one, other)
        rules = rounds.rules()
        self.assertEqual(judged(told, rules, account), (one, other))
        self.assertEqual(shown(told, rules, account), (one, other))
        brought = [instance for _, instance, _ in rounds.instances()]
        for name, filling, _ in account[0]:
            self.assertIn((name, filling), brought)
        numbers, places = used(account)
        self.assertEqual(places, list(range(len(account[0]))))
        self.assertEqual(numbers, sorted(set(numbers) & set(told)))
        kept = {number: told[number] for number in numbers}
        steps = [step_pairs(rules, step) for step in account[0]]
        self.assertTrue(counting_web(kept, steps).alike(one, other))
        for number in numbers:
            fewer = {at: kept[at] for at in numbers if at != number}
            self.assertFalse(counting_web(fewer, steps).alike(one, other))
        for place in places:
            self.assertFalse(counting_web(kept, steps[:place] + steps[place + 1:]).alike(one, other))
        return account

    def test_without_steps(self):
        web = web_of_texts("a=b", "c=d", "f(a)=c")
        rounds = Rounds(web, [])
        self.assertEqual(used(self.right_account(web.told(), rounds, D, FB)), ([1, 2, 3], []))
        self.assertEqual(used(self.right_account(web.told(), rounds, A, A)), ([], []))
        self.assertEqual(self.right_account(web.told(), rounds, D, D)[0], [])

    def test_one_step_and_several(self):
        web = web_of_texts("f(a)", "g(a)=c", "a=b")
        rounds = Rounds(web, [RULES[0]])
        with self.assertRaises(NotReached):
            account_of(rounds, FA, C)
        rounds.bring()
        account = self.right_account(web.told(), rounds, C, FB)
        self.assertEqual(used(account), ([1, 2], [0]))
        self.assertEqual([step[:2] for step in account[0]], [("step", X_A)])
        rounds = Rounds(web, RULES)
        rounds.bring()
        rounds.bring()
        self.assertEqual(used(self.right_account(web.told(), rounds, FA, D))[1], [0, 1])

    def test_a_step_that_is_not_needed_is_left_out(self):
        web = web_of_texts("f(a)=g(a)", "f(b)", "f(c)")
        rounds = Rounds(web, [RULES[0]])
        rounds.run()
        self.assertEqual(used(self.right_account(web.told(), rounds, FA, GA)), ([1], []))
        self.assertEqual(self.right_account(web.told(), rounds, FB, GB)[0], [("step", X_B, [])])

    def test_conditions_by_papers(self):
        web = web_of_texts("n(a,b)", "n(b,c)", "n(c,d)", "v(a)=k")
        rule = rule_of("next", "v(?y)=k", "v(?x)=k", triggers=[("n", "?x", "?y")])
        rounds = Rounds(web, [rule])
        self.assertEqual(rounds.run(), 3)
        account = self.right_account(web.told(), rounds, ("v", D), ("v", A))
        self.assertEqual(used(account), ([1], [0, 1, 2]))
        self.assertEqual([dict(step[1])["?y"] for step in account[0]], [B, C, D])
        account = self.right_account(web.told(), rounds, ("v", B), ("k",))
        self.assertEqual(used(account), ([1], [0]))

    def test_what_counts_only_for_a_condition_is_used(self):
        web = web_of_texts("f(a)", "b=c", "c=d")
        rule = rule_of("r", "f(?x)=?x", "b=d")
        rounds = Rounds(web, [rule])
        rounds.run()
        account = self.right_account(web.told(), rounds, FA, A)
        self.assertEqual(used(account), ([1, 2], [0]))

    def test_terms_that_do_not_stand_in_the_web(self):
        web = web_of_texts("f(a)", "a=b")
        rounds = Rounds(web, [RULES[0]])
        rounds.run()
        account = self.right_account(web.told(), rounds, ("h", FB, ("k", A)), ("h", GA, ("k", B)))
        self.assertEqual(used(account), ([1], [0]))
        self.right_account(web.told(), rounds, ("z",), ("z",))
        wide_one = wide(30)
        self.right_account(web.told(), rounds, wide_one, put_in_b(wide_one))

    def test_conditions_of_terms_that_do_not_stand_in_the_web(self):
        web = web_of_texts("f(a)", "b=a")
        rounds = Rounds(web, [rule_of("r", "f(?x)=?x", "h(k(?x),?x)=h(k(b),?x)")])
        rounds.run()
        self.assertEqual(used(self.right_account(web.told(), rounds, FA, B)), ([1], [0]))

    def test_numbers_are_those_of_the_web_handed_in(self):
        web = web_of_texts("a!b", "a=b", "c!d", "f(a)=d")
        rounds = Rounds(web, [rule_of("no", "f(?x)=?x", apart=True), RULES[0]])
        rounds.run()
        account = self.right_account(web.told(), rounds, D, GB)
        self.assertEqual(used(account), ([2, 4], [0]))
        web.back()
        web.like(C, D)
        self.assertEqual(used(account_of(rounds, D, GB)), ([2, 4], [0]))

    def test_long_rows_of_tellings(self):
        web = web_behind([("like", numbered(at), numbered(at + 1)) for at in range(40)])
        rounds = Rounds(web, [])
        account = self.right_account(web.told(), rounds, numbered(40), numbered(0))
        self.assertEqual(used(account), (list(range(1, 41)), []))
        self.assertEqual(used(self.right_account(web.told(), rounds, numbered(7), numbered(9))), ([8, 9], []))

    def test_long_rows_of_steps(self):
        web = web_behind([("like", ("v", numbered(0)), ("k",))] + [
            ("put", ("n", numbered(at), numbered(at + 1))) for at in range(18)])
        rounds = Rounds(web, [rule_of("next", "v(?y)=k", "v(?x)=k", triggers=[("n", "?x", "?y")])])
        self.assertEqual(rounds.run(18), 18)
        account = self.right_account(web.told(), rounds, ("v", numbered(18)), ("v", numbered(0)))
        self.assertEqual(used(account), ([1], list(range(18))))

    def test_as_many_steps_as_may_be_told(self):
        web = web_behind([("put", ("f", numbered(at))) for at in range(20)])
        rules = [rule_of("one", "f(?x)=k"), rule_of("two", "?x=k", "f(?x)=k")]
        rounds = Rounds(web, rules)
        self.assertEqual(rounds.run(), 2)
        self.assertEqual(len(rounds.reached().told()), 40)
        terms = [("h", numbered(at), numbered(at + 1), numbered(at + 2)) for at in (0, 3, 6, 9, 12, 15)]
        one = ("h", *[("h", *terms[at:at + 2]) for at in (0, 2, 4)])
        other = ("h", *[("h", ("h", ("k",), ("k",), ("k",)), ("h", ("k",), ("k",), ("k",))) for _ in range(3)])
        self.assertEqual(used(self.right_account({}, rounds, one, other)), ([], list(range(36))))

    def test_bad_term_and_not_reached(self):
        web = web_of_texts("f(a)")
        rounds = Rounds(web, [RULES[0]])
        for thing in NO_PATTERNS + ("?x", ("f", "?x"), wide(31), chain(6)):
            for pair in ((thing, A), (A, thing), (thing, thing)):
                with self.assertRaises(BadTerm):
                    account_of(rounds, *pair)
        for pair in ((FA, GA), (A, B), (("z",), A), (("h", FA), ("h", GA))):
            with self.assertRaises(NotReached):
                account_of(rounds, *pair)
        rounds.run()
        account_of(rounds, ("h", FA), ("h", GA))
        with self.assertRaises(NotReached):
            account_of(rounds, FA, GB)

    def test_by_name_and_nothing_is_changed(self):
        web = web_of_texts("f(a)")
        rounds = Rounds(web, [RULES[0]])
        rounds.run()
        before = whole(rounds.reached()), rounds.instances()
        account = account_of(rounds=rounds, one=FA, other=GA)
        account[0].clear()
        account[1].clear()
        self.assertEqual((whole(rounds.reached()), rounds.instances()), before)
        self.assertEqual(account_of(rounds, FA, GA), ([("step", X_A, [])], [("told", 1001)]))

    def test_behind_each_round_of_each_two_that_are_alike(self):
        chance = chances(101)
        many = with_steps = with_papers = 0
        for _ in range(120):
            web = web_behind(some_rows(chance, chance.randrange(1, 6)))
            rounds = Rounds(web, lively_rules(chance, chance.choice((0, 0, 1))))
            for _ in range(3):
                try:
                    brought = rounds.bring()
                except MatchError:
                    break
                if not brought:
                    break
                reached = rounds.reached()
                for one, other in itertools.product(reached.terms()[:12], repeat=2):
                    if one != other and reached.alike(one, other):
                        steps, _ = self.right_account(web.told(), rounds, one, other)
                        many += 1
                        with_steps += len(steps) > 0
                        with_papers += any(step[2] for step in steps)
                    elif one != other:
                        with self.assertRaises(NotReached):
                            account_of(rounds, one, other)
        self.assertGreater(many, 400)
        self.assertGreater(with_steps, 150)
        self.assertGreater(with_papers, 15)


def put_in_b(term):
    """The term with b for a."""
    return B if term == A else (term[0],) + tuple(put_in_b(part) for part in term[1:])


class Used(unittest.TestCase):
    def test_all_that_papers_name(self):
        self.assertEqual(used(GOOD), ([1, 3], [0, 1, 2]))
        self.assertEqual(used(([], [("same", A)])), ([], []))
        self.assertEqual(used(([("step", X_A, []), ("step", X_B, [])], [("told", 1002)])), ([], [1]))
        self.assertEqual(used(([("step", X_A, []), ("step", X_B, [])], [("told", 1000), ("told", 7)])), ([7, 1000], []))
        # What only the papers of a step that nothing names use is used, too.
        self.assertEqual(used((GOOD[0], [("told", 1003)])), ([1, 3], [2]))
        self.assertEqual(used(tuple([tuple(GOOD[0]), tuple(GOOD[1])])), ([1, 3], [0, 1, 2]))


if __name__ == "__main__":
    unittest.main()
