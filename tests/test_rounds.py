"""[90] and [91]: rounds.py."""

import itertools
import unittest

from helpers import (A, B, C, D, chances, fillings_told, holes_told, like_fillings, lively_rules, numbered, rule_of,
                     slow_joint, some_rows, some_rules, web_behind, web_of_texts, whole)
from likematch.errors import BadRules, MatchError, TooGreat, TooMany
from likematch.rounds import MOST_ROUNDS, Rounds
from likematch.rules import Rule
from likematch.terms import filled
from likematch.texts import read_pattern
from likematch.webs import Web

COMM = Rule("comm", ("f", "?x", "?y"), ("f", "?y", "?x"))
GROW = rule_of("grow", "f(?x)=g(f(?x))")


def instances_told(name, *texts):
    return [(name, filling) for filling in fillings_told(*texts)]


class SlowRounds:
    """What rounds do, by the words of the document; none of them are refused."""

    def __init__(self, web, rules):
        self.web = web.twin()
        self.rules = rules
        self.triples = []

    def found(self):
        for rule in self.rules:
            before = [filling for _, (name, filling), _ in self.triples if name == rule.name]
            for told in slow_joint(self.web, rule.triggers()):
                fill = dict(told)
                filling = tuple((hole, fill[hole]) for hole in holes_told(
                    [rule.one, rule.other] + [pattern for pair in rule.when for pattern in pair]))
                if not any(like_fillings(self.web, filling, other) for other in before):
                    if all(self.web.alike(filled(one, fill), filled(other, fill)) for one, other in rule.when):
                        yield rule, filling

    def bring(self):
        found = list(self.found())
        number = max([row[0] for row in self.triples], default=0) + 1
        for rule, filling in found:
            one, other = filled(rule.one, dict(filling)), filled(rule.other, dict(filling))
            told = None
            if rule.apart:
                if (one, other) not in self.web.parted().values():
                    told = self.web.unlike(one, other)
            elif self.web.alike(one, other):
                self.web.put(one)
                self.web.put(other)
            else:
                told = self.web.like(one, other)
            self.triples.append((number, (rule.name, filling), told))
        return [(rule.name, filling) for rule, filling in found]


def state(rounds):
    """All that rounds tell of where they stand."""
    return whole(rounds.reached()), list(rounds.instances()), list(rounds.rules())


class Bringing(unittest.TestCase):
    def test_one_round_behind_another(self):
        rounds = Rounds(web_of_texts("f(b,a)", "f(c,f(b,a))"), [COMM])
        self.assertEqual(rounds.bring(), instances_told("comm", "?x=b ?y=a", "?x=c ?y=f(b,a)"))
        web = rounds.reached()
        self.assertEqual(list(web.told().values()), [
            (("f", B, A), ("f", A, B)), (read_pattern("f(c,f(b,a))"), read_pattern("f(f(b,a),c)"))])
        self.assertEqual(rounds.bring(), instances_told("comm", "?x=a ?y=b", "?x=f(a,b) ?y=c"))
        self.assertEqual(len(rounds.reached().told()), 2)
        self.assertEqual(rounds.bring(), [])
        self.assertEqual(rounds.instances(), [
            (1, ("comm", (("?x", B), ("?y", A))), 1), (1, ("comm", (("?x", C), ("?y", ("f", B, A)))), 2),
            (2, ("comm", (("?x", A), ("?y", B))), None), (2, ("comm", (("?x", ("f", A, B)), ("?y", C))), None)])

    def test_nothing_to_bring(self):
        for web, rules in ((Web(), []), (Web(), [COMM]), (web_of_texts("a"), []), (web_of_texts("f(a)"), [COMM])):
            rounds = Rounds(web, rules)
            self.assertIs(rounds.is_quiet(), True)
            self.assertEqual(rounds.bring(), [])
            self.assertEqual(rounds.run(), 0)
            self.assertEqual(rounds.instances(), [])
            self.assertEqual(whole(rounds.reached()), whole(web))

    def test_a_round_sees_the_web_as_it_stood_when_it_began(self):
        rounds = Rounds(web_of_texts("f(a)"), [rule_of("one", "f(?x)=g(?x)"), rule_of("two", "h(?x)=g(?x)",
                                                                                       triggers=[("g", "?x")])])
        self.assertEqual(rounds.bring(), instances_told("one", "?x=a"))
        self.assertEqual(rounds.bring(), instances_told("two", "?x=a"))
        self.assertEqual(rounds.bring(), [])

    def test_instances_of_all_rules_in_order(self):
        web = web_of_texts("f(b)", "f(a)", "g(c)")
        one, two = rule_of("one", "f(?x)=?x"), rule_of("two", "g(?x)=?x")
        self.assertEqual(Rounds(web, [one, two]).bring(), instances_told("one", "?x=a", "?x=b") + instances_told(
            "two", "?x=c"))
        self.assertEqual(Rounds(web, [two, one]).bring(), instances_told("two", "?x=c") + instances_told(
            "one", "?x=a", "?x=b"))

    def test_fillings_in_the_order_of_the_triggers_told_in_the_order_of_the_holes(self):
        web = web_of_texts("g(a,d)", "g(b,c)")
        rule = rule_of("r", "h(?y)=h(?x)", triggers=[("g", "?x", "?y")])
        self.assertEqual(rule.holes(), ["?y", "?x"])
        rounds = Rounds(web, [rule])
        self.assertEqual(rounds.bring(), instances_told("r", "?y=d ?x=a", "?y=c ?x=b"))
        self.assertEqual(list(rounds.reached().told().values()), [(("h", D), ("h", A)), (("h", C), ("h", B))])

    def test_a_rule_without_holes_is_brought_once(self):
        for web in (Web(), web_of_texts("a"), web_of_texts("a=b")):
            rounds = Rounds(web, [rule_of("r", "a=b")])
            self.assertEqual(rounds.bring(), [("r", ())])
            self.assertEqual(rounds.bring(), [])
            self.assertTrue(rounds.reached().alike(A, B))
        rounds = Rounds(Web(), [rule_of("r", "a=b", triggers=[C])])
        self.assertEqual(rounds.bring(), [])
        rounds = Rounds(web_of_texts("c"), [rule_of("r", "a=b", triggers=[C])])
        self.assertEqual(rounds.bring(), [("r", ())])

    def test_fillings_like_one_before_are_left_out(self):
        # Behind the first round, a and b are alike, and f(b) is found under the name of a.
        rounds = Rounds(web_of_texts("f(b)", "g(b)=h(a)"), [rule_of("one", "f(?x)=k(?x)"), rule_of("two", "a=b")])
        self.assertEqual(rounds.bring(), instances_told("one", "?x=b") + [("two", ())])
        self.assertEqual(rounds.reached().least(B), A)
        self.assertEqual(rounds.bring(), [])

    def test_each_rule_has_its_own_fillings(self):
        rounds = Rounds(web_of_texts("f(a)"), [rule_of("one", "f(?x)=?x"), rule_of("two", "f(?x)=?x")])
        self.assertEqual(rounds.bring(), instances_told("one", "?x=a") + instances_told("two", "?x=a"))
        self.assertEqual([row[2] for row in rounds.instances()], [1, None])

    def test_pairs_of_when_that_are_alike_only_later(self):
        web = web_of_texts("f(a)", "f(b)", "g(a)", "g(b)", "h(a)=c", "h(b)=c")
        rule = rule_of("r", "?x=?y", "f(?x)=f(?y)", "g(?x)=g(?y)")
        rounds = Rounds(web, [rule])
        self.assertEqual(rounds.bring(), instances_told("r", "?x=a ?y=a", "?x=b ?y=b"))
        self.assertEqual(rounds.bring(), [])
        web.like(("f", A), ("f", B))
        self.assertEqual(Rounds(web, [rule]).bring(), instances_told("r", "?x=a ?y=a", "?x=b ?y=b"))
        rounds = Rounds(web, [rule, rule_of("s", "g(?x)=c", triggers=[("h", "?x")])])
        self.assertEqual(rounds.bring(), instances_told("r", "?x=a ?y=a", "?x=b ?y=b") + instances_told(
            "s", "?x=a", "?x=b"))
        self.assertEqual(rounds.bring(), instances_told("r", "?x=a ?y=b", "?x=b ?y=a"))
        self.assertTrue(rounds.reached().alike(A, B))
        self.assertEqual([row[2] for row in rounds.instances()], [None, None, 4, 5, 6, None])

    def test_apart(self):
        rule = rule_of("r", "f(?x)=?x", apart=True)
        rounds = Rounds(web_of_texts("f(b)", "f(a)", "a!f(a)", "f(b)!b"), [rule])
        self.assertEqual(rounds.bring(), instances_told("r", "?x=a", "?x=b"))
        self.assertEqual(rounds.instances(), [(1, ("r", (("?x", A),)), 3), (1, ("r", (("?x", B),)), None)])
        self.assertEqual(rounds.reached().log()[-1:], [("unlike", ("f", A), A)])
        self.assertEqual(rounds.bring(), [])

    def test_pairs_told_unlike_by_an_instance_just_then(self):
        web = web_of_texts("f(a)", "f(b)")
        rounds = Rounds(web, [rule_of("r", "f(a)=c", triggers=[("f", A)], apart=True),
                              rule_of("s", "f(a)=c", triggers=[("f", B)], apart=True),
                              rule_of("t", "c=f(a)", apart=True)])
        self.assertEqual(rounds.bring(), [("r", ()), ("s", ()), ("t", ())])
        self.assertEqual([row[2] for row in rounds.instances()], [1, None, 2])
        self.assertEqual(len(rounds.reached().log()), 4)

    def test_alike_by_then_both_are_put_one_by_one(self):
        web = web_of_texts("f(a)", "a=b")
        rounds = Rounds(web, [rule_of("r", "g(?x)=h(?x)", triggers=[("f", "?x")]),
                              rule_of("s", "g(?x)=h(b)", triggers=[("f", "?x")])])
        rounds.bring()
        self.assertEqual(rounds.instances(), [(1, ("r", (("?x", A),)), 2), (1, ("s", (("?x", A),)), None)])
        self.assertEqual(rounds.reached().log()[2:], [("like", ("g", A), ("h", A)), ("put", ("g", A)), ("put", ("h", B))])

    def test_where_a_filled_pair_of_unlike_ones_is_alike(self):
        rounds = Rounds(web_of_texts("a=b"), [rule_of("r", "a=b", apart=True)])
        rounds.bring()
        self.assertEqual(rounds.reached().parted(), {2: (A, B)})
        self.assertEqual(rounds.instances(), [(1, ("r", ()), 2)])


class Running(unittest.TestCase):
    def test_how_many_brought_one(self):
        self.assertEqual(MOST_ROUNDS, 6)
        for most, many in ((0, 0), (1, 1), (2, 2), (3, 2), (9, 2)):
            rounds = Rounds(web_of_texts("f(a,b)"), [COMM])
            self.assertEqual(rounds.run(most), many)
            self.assertIs(rounds.is_quiet(), many == 2)
            self.assertEqual(len(rounds.instances()), many)
        rounds = Rounds(web_of_texts("f(a,b)"), [COMM])
        self.assertEqual(rounds.run(), 2)
        self.assertEqual(rounds.run(), 0)
        self.assertEqual(rounds.instances()[-1][0], 2)

    def test_at_most_six_where_no_number_is_handed_in(self):
        steps = [rule_of("s" + "abcdefgh"[at], "{}=f({})".format("hijklmno"[at], "ijklmnop"[at]),
                         triggers=[("hijklmno"[at],)]) for at in range(8)]
        rounds = Rounds(web_of_texts("h"), steps)
        self.assertEqual(rounds.run(), 6)
        self.assertEqual([row[0] for row in rounds.instances()], [1, 2, 3, 4, 5, 6])
        self.assertIs(rounds.is_quiet(), False)
        self.assertEqual(rounds.run(most=1), 1)
        self.assertEqual(rounds.run(), 1)
        self.assertEqual([row[0] for row in rounds.instances()], [1, 2, 3, 4, 5, 6, 7, 8])
        self.assertIs(rounds.is_quiet(), True)

    def test_the_last_round_may_bring_only_what_nothing_is_told_of(self):
        rounds = Rounds(web_of_texts("f(a,a)"), [COMM])
        self.assertEqual(rounds.run(), 1)
        self.assertEqual(rounds.instances(), [(1, ("comm", (("?x", A), ("?y", A))), None)])


class Refused(unittest.TestCase):
    def refused(self, rounds, refusal, *calls):
        before = state(rounds)
        for call in calls:
            with self.subTest(call=call), self.assertRaises(refusal) as caught:
                getattr(rounds, call)()
            self.assertIs(type(caught.exception), refusal)
            self.assertEqual(state(rounds), before)

    def test_bad_rules(self):
        class Other:
            name = "r"

        for thing in (None, True, 1, "", "comm", {}, COMM, [None], [COMM, "comm"], [COMM, COMM], [Other()], {COMM.name: COMM},
                      [COMM, rule_of("comm", "a=b")], [rule_of("r" + "abcdefghi"[at], "a=b") for at in range(9)], [[COMM]]):
            with self.subTest(thing=thing), self.assertRaises(BadRules):
                Rounds(Web(), thing)
        for rules in ([], (), [COMM], (COMM,), [rule_of("r" + "abcdefgh"[at], "a=b") for at in range(8)]):
            self.assertEqual(Rounds(Web(), rules).rules(), list(rules))

    def test_a_filled_pattern_beyond_the_bounds(self):
        for text in ("f(?x)=g(?x,?x,?x)", "g(?x,?x,?x)=f(?x)"):
            rounds = Rounds(web_of_texts("a=b", "f(k(a,a,k(a,a,k(a,a,a))))"), [rule_of("r", text, triggers=[("f", "?x")])])
            self.refused(rounds, TooGreat, "bring", "run")
            self.assertIs(rounds.is_quiet(), False)

    def test_a_pair_of_when_beyond_the_bounds(self):
        for when in ("g(?x,?x,?x)=a", "a=g(?x,?x,?x)"):
            rounds = Rounds(web_of_texts("f(k(a,a,k(a,a,k(a,a,a))))"), [rule_of("r", "f(?x)=?x", when)])
            self.refused(rounds, TooGreat, "bring", "run", "is_quiet")

    def test_pairs_of_when_are_looked_at_up_to_the_first_that_is_not_alike(self):
        web = web_of_texts("f(k(a,a,k(a,a,k(a,a,a))))")
        rounds = Rounds(web, [rule_of("r", "f(?x)=?x", "a=b", "a=g(?x,?x,?x)")])
        self.assertEqual(rounds.bring(), [])
        self.assertIs(rounds.is_quiet(), True)
        self.refused(Rounds(web, [rule_of("r", "f(?x)=?x", "a=a", "a=g(?x,?x,?x)", "a=b")]), TooGreat, "bring", "is_quiet")

    def test_pairs_of_when_of_fillings_before_are_not_looked_at(self):
        deep = web_of_texts("f(g(a,b,c))", "h(g(g(a)))")
        rules = [rule_of("r", "b=c", "k(k(k(?x)))=k(k(k(?x)))", triggers=[("f", "?x")]),
                 rule_of("s", "g(a,b,c)=g(g(a))")]
        rounds = Rounds(deep, rules)
        self.assertEqual(rounds.bring(), instances_told("r", "?x=g(a,b,c)") + [("s", ())])
        # Now the least one of its class is too deep for when, but the filling is like one before.
        self.assertEqual(rounds.reached().least(read_pattern("g(a,b,c)")), read_pattern("g(g(a))"))
        self.assertEqual(rounds.bring(), [])
        self.refused(Rounds(rounds.reached(), rules), TooGreat, "bring", "is_quiet")

    def test_more_fillings_than_joint_tells(self):
        web = web_behind([("put", ("f", numbered(at))) for at in range(18)])
        rule = rule_of("r", "f(?x)=f(?y)", "a=b")
        self.assertEqual(rule.triggers(), [("f", "?x"), ("f", "?y")])
        self.refused(Rounds(web, [rule]), TooMany, "bring", "run", "is_quiet")
        web.back()
        self.assertEqual(Rounds(web, [rule]).bring(), [])

    def test_more_terms_than_may_stand_in_the_web(self):
        web = web_behind([("put", ("f", numbered(at))) for at in range(25)])
        rounds = Rounds(web, [rule_of("r", "f(?x)=g(?x)")])
        self.refused(rounds, TooMany, "bring", "run")
        self.assertIs(rounds.is_quiet(), False)
        rounds = Rounds(web_behind([("put", ("f", numbered(at))) for at in range(20)]), [rule_of("r", "f(?x)=g(?x)")])
        self.assertEqual(rounds.run(), 1)
        self.assertEqual(len(rounds.reached()), 60)

    def test_more_tellings_than_may_be(self):
        for apart in (False, True):
            rows = [("unlike", A, B)] * 36 + [("put", ("f", numbered(at))) for at in range(5)]
            self.refused(Rounds(web_behind(rows), [rule_of("r", "f(?x)=?x", apart=apart)]), TooMany, "bring", "run")
            rounds = Rounds(web_behind(rows[:-1]), [rule_of("r", "f(?x)=?x", apart=apart)])
            self.assertEqual(len(rounds.bring()), 4)
            self.assertEqual([row[2] for row in rounds.instances()], [37, 38, 39, 40])
            self.assertEqual(rounds.bring(), [])

    def test_whichever_comes_first(self):
        big = "f(k(a,a,k(a,a,k(a,a,a))))"
        great = rule_of("great", "f(?x)=g(?x,?x,?x)", triggers=[("f", "?x")])
        great_when = rule_of("when", "f(?x)=a", "g(?x,?x,?x)=a", triggers=[("f", "?x")])
        many = rule_of("many", "h(?x)=h(?y)", "a=b", triggers=[("h", "?x"), ("h", "?y")])
        web = web_behind([("put", ("h", numbered(at))) for at in range(18)] + [("put", read_pattern(big))])
        # All fillings of all rules are looked for ahead of all that is told.
        self.refused(Rounds(web, [great, many]), TooMany, "bring", "run")
        self.refused(Rounds(web, [great_when, many]), TooGreat, "bring", "run", "is_quiet")
        self.refused(Rounds(web, [many, great_when]), TooMany, "bring", "run", "is_quiet")
        full = web_behind([("unlike", A, B)] * 40 + [("put", read_pattern(big))])
        tells = rule_of("tells", "a=b")
        self.refused(Rounds(full, [tells, great]), TooMany, "bring")
        self.refused(Rounds(full, [great, tells]), TooGreat, "bring")
        self.refused(Rounds(full, [tells, great_when]), TooGreat, "bring")

    def test_a_run_that_is_refused_midway_leaves_all_as_ahead(self):
        web = web_of_texts("f(a)", "b=c", "d")
        web.back()
        rounds = Rounds(web, [COMM, rule_of("next", "f(?x)=f(s(?x))")])
        self.assertEqual(len(rounds.bring()), 1)
        self.refused(rounds, TooGreat, "run")
        before = state(rounds)
        with self.assertRaises(TooGreat):
            rounds.run(most=20)
        self.assertEqual(state(rounds), before)
        many = 0
        while True:
            try:
                rounds.bring()
            except MatchError:
                break
            many += 1
        self.assertGreater(many, 0)
        again = Rounds(web, rounds.rules())
        self.assertEqual(again.run(many + 1), many + 1)
        self.assertEqual(state(again), state(rounds))


class Apart(unittest.TestCase):
    def test_the_web_that_was_handed_in_stays_as_it_is(self):
        web = web_of_texts("f(a,b)", "c=d", "d")
        web.back()
        before = whole(web)
        rules = [COMM]
        rounds = Rounds(web=web, rules=rules)
        rules.append(GROW)
        rounds.run()
        self.assertEqual(whole(web), before)
        web.put(("f", C, D))
        web.like(A, B)
        self.assertEqual(rounds.run(), 0)
        self.assertEqual(rounds.rules(), [COMM])
        self.assertFalse(rounds.reached().alike(A, B))

    def test_what_is_told_is_the_askers_own(self):
        rounds = Rounds(web_of_texts("f(a,b)"), [COMM])
        rounds.bring().clear()
        before = state(rounds)
        rounds.reached().like(A, B)
        rounds.instances().clear()
        rounds.rules().clear()
        rounds.is_quiet()
        self.assertEqual(state(rounds), before)

    def test_what_can_be_taken_back_and_done_again(self):
        web = web_of_texts("f(a,b)", "c=d", "d")
        web.back()
        rounds = Rounds(web, [COMM])
        self.assertEqual(whole(rounds.reached()), whole(web))
        rounds.bring()
        reached = rounds.reached()
        self.assertEqual(reached.log(), web.log() + [("like", ("f", A, B), ("f", B, A))])
        self.assertEqual(whole(reached)[-1], [])
        reached.back()
        self.assertEqual(reached.log(), web.log())

    def test_deeds_taken_back_and_done_again_ahead(self):
        web = web_of_texts("f(a)", "f(b)", "a=b")
        web.back()
        self.assertEqual(len(Rounds(web, [GROW]).bring()), 2)
        web.again()
        self.assertEqual(len(Rounds(web, [GROW]).bring()), 1)
        self.assertEqual(len(Rounds(web.twin(), [GROW]).bring()), 1)


class Slow(unittest.TestCase):
    def test_against_the_words_of_the_document(self):
        chance = chances(90)
        brought = later = 0
        for _ in range(250):
            web = web_behind(some_rows(chance, chance.randrange(1, 5)))
            rules = some_rules(chance) if chance.random() < 0.5 else lively_rules(chance, chance.choice((0, 1)))
            rounds, slow = Rounds(web, rules), SlowRounds(web, rules)
            for number in range(3):
                if len(slow.web) > 14:
                    break
                try:
                    expected = slow.bring()
                except MatchError as refusal:
                    with self.assertRaises(type(refusal)):
                        rounds.bring()
                    break
                self.assertIs(rounds.is_quiet(), expected == [])
                self.assertEqual(rounds.bring(), expected, (web.log(), rules))
                self.assertEqual(rounds.instances(), slow.triples)
                self.assertEqual(whole(rounds.reached()), whole(slow.web))
                brought += len(expected)
                later += len(expected) if number else 0
        self.assertGreater(brought, 250)
        self.assertGreater(later, 30)

    def same_instances(self, one, other):
        """Whether each instance of the one has a like one of the other, in the same round."""
        web = one.reached()
        self.assertTrue(all(any(near[0] == far[0] and near[1][0] == far[1][0]
                                and like_fillings(web, near[1][1], far[1][1]) for far in other.instances())
                            for near in one.instances()))

    def test_whatever_the_order_of_terms_tellings_and_rules(self):
        chance = chances(91)
        many = 0
        for _ in range(120):
            rows = some_rows(chance, chance.randrange(1, 5))
            rules = some_rules(chance) if chance.random() < 0.5 else lively_rules(chance, chance.choice((0, 1)))
            pair = []
            for _ in range(2):
                pair.append(Rounds(web_behind(chance.sample(rows, len(rows))), chance.sample(rules, len(rules))))
            for _ in range(3):
                try:
                    counts = [len(rounds.bring()) for rounds in pair]
                except MatchError:
                    break
                webs = [rounds.reached() for rounds in pair]
                terms = webs[0].terms() + webs[1].terms()
                for one, other in itertools.combinations(terms, 2):
                    self.assertIs(webs[0].alike(one, other), webs[1].alike(one, other))
                self.same_instances(*pair)
                self.same_instances(*reversed(pair))
                many += sum(counts) > 0
        self.assertGreater(many, 60)


if __name__ == "__main__":
    unittest.main()
