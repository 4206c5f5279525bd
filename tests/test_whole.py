"""[2]: what the document promises over the whole program."""

import itertools
import unittest

from helpers import (all_of, chances, judged, lively_rules, slow_joint, some_pattern, some_rows, text_of, walked, web_behind,
                     whole)
from likematch.accounts import account_of, shown
from likematch.clashes import clash, culprits, sound
from likematch.desk import Desk, answers
from likematch.errors import MatchError, NotAlike, NotReached
from likematch.finders import Finder
from likematch.logs import web_of
from likematch.matches import joint
from likematch.models import model_of
from likematch.papers import paper_of, tellings
from likematch.rounds import Rounds
from likematch.rules import covers
from likematch.tables import keeps, table_of, value
from likematch.texts import pattern_text, read_pattern


def some_web(chance):
    """A web behind some deeds, of which some are taken back and some done again."""
    web = web_behind(some_rows(chance, chance.randrange(1, 6)))
    for _ in range(chance.randrange(3)):
        if web.log():
            web.back()
            if chance.random() < 0.5:
                web.again()
    return web


def some_run(chance):
    """A web, some rules, and rounds of these that were not refused."""
    web = some_web(chance)
    rules = lively_rules(chance, chance.choice((0, 0, 1)))
    rounds = Rounds(web, rules)
    try:
        rounds.run(3)
    except MatchError:
        pass
    return web, rules, rounds


class Whole(unittest.TestCase):
    def test_no_two_have_both_a_paper_and_a_table_that_parts_them(self):
        chance = chances(2)
        seen = {True: 0, False: 0}
        for _ in range(80):
            web = some_web(chance)
            table = table_of(web)
            self.assertTrue(keeps(table, list(web.told().values())))
            for one, other in itertools.combinations(web.terms()[:14], 2):
                apart = value(table, one) != value(table, other)
                seen[apart] += 1
                self.assertIs(web.alike(one, other), not apart)
                if apart:
                    with self.assertRaises(NotAlike):
                        paper_of(web, one, other)
                else:
                    self.assertEqual(walked(web.told(), paper_of(web, one, other)), (one, other))
        self.assertGreater(min(seen.values()), 60)

    def test_no_two_have_both_an_account_and_a_table_that_keeps_the_rules_and_parts_them(self):
        chance = chances(3)
        seen = {"account": 0, "parted": 0, "neither": 0}
        for _ in range(150):
            web, rules, rounds = some_run(chance)
            if len(web) > 14:
                continue
            reached = rounds.reached()
            table = model_of(web, rules)
            for one, other in itertools.combinations(reached.terms()[:12], 2):
                parts = table is not None and value(table, one) != value(table, other)
                try:
                    account = account_of(rounds, one, other)
                except NotReached:
                    self.assertFalse(reached.alike(one, other))
                    seen["parted" if parts else "neither"] += 1
                    continue
                seen["account"] += 1
                self.assertTrue(reached.alike(one, other))
                self.assertFalse(parts)
                self.assertEqual(judged(web.told(), rules, account), (one, other))
                self.assertEqual(shown(web.told(), rules, account), (one, other))
                if table is not None:
                    self.assertEqual(value(table, one), value(table, other))
        self.assertGreater(min(seen.values()), 40, seen)

    def test_clashes_have_papers_of_least_tellings(self):
        chance = chances(5)
        many = 0
        terms = [read_pattern(text) for text in ("a", "b", "c", "f(a)", "f(b)", "g(f(a),b)", "g(f(b),c)")]
        for _ in range(150):
            web = web_behind([(chance.choice(("like", "like", "unlike")),) + tuple(chance.sample(terms, 2))
                              for _ in range(chance.randrange(1, 8))])
            found = clash(web)
            self.assertEqual(found is None, not any(web.alike(*pair) for pair in web.parted().values()))
            self.assertEqual(found is None, model_of(web, []) is not None)
            if found is None:
                self.assertEqual(culprits(web), [])
                continue
            many += 1
            self.assertEqual(walked(web.told(), found[1]), web.parted()[found[0]])
            self.assertTrue(any(set(chosen) <= set(tellings(found[1])) for chosen in culprits(web)))
            for chosen in culprits(web):
                self.assertTrue(all(set(chosen) - set(kept) for kept in sound(web)))
        self.assertGreater(many, 15)

    def test_behind_deeds_taken_back_all_stands_as_ahead(self):
        chance = chances(6)
        for _ in range(60):
            web = some_web(chance)
            rules = lively_rules(chance)
            states = []
            while web.log():
                states.append(self.told_of(web, rules))
                web.back()
            while states:
                web.again()
                self.assertEqual(self.told_of(web, rules), states.pop())

    def told_of(self, web, rules):
        """What the web, a twin, and what is built on it tell."""
        rounds = Rounds(web, rules)
        try:
            many = rounds.run(2)
        except MatchError as refusal:
            many = type(refusal)
        patterns = [("f", "?x"), ("g", "?y")]
        self.assertEqual(Finder(web, patterns).new(), joint(web, patterns))
        self.assertEqual(joint(web.twin(), patterns), slow_joint(web, patterns))
        return all_of(web), joint(web, patterns), many, rounds.instances(), all_of(rounds.reached())

    def test_texts_and_logs_lead_to_the_same_again(self):
        chance = chances(7)
        for _ in range(100):
            pattern = some_pattern(chance)
            self.assertEqual(read_pattern(pattern_text(pattern)), pattern)
            web, rules, rounds = some_run(chance)
            for one in (web, rounds.reached()):
                if len(one.log()) <= 100:
                    self.assertEqual(all_of(web_of(one.log())), all_of(one))
                self.assertEqual(whole(one.twin()), whole(one))
            rows = [" ".join([row[0]] + [text_of(term) for term in row[1:]]) for row in web.log()]
            texts = [(rule, [text_of(one) for one in [rule.one, rule.other] + [p for pair in rule.when for p in pair]])
                     for rule in rules]
            rows += [" ".join(["diff" if rule.apart else "rule", rule.name] + words) for rule, words in texts]
            rows += ["rounds 2", "classes", "match f(?x)", "clash"]
            self.assertEqual(answers("\n".join(rows)), answers("\n".join(rows)))
            desk = Desk()
            self.assertEqual([desk.answer(row) for row in rows], answers("\n".join(rows)))
            other = Rounds(web_of(web.log()), rules)
            try:
                other.run(2)
            except MatchError:
                continue
            self.assertEqual(answers("\n".join(rows))[-3], " ".join(
                "=".join(map(text_of, row)) for row in other.reached().classes()) or "none")

    def test_triggers_cover_and_none_can_be_left_out(self):
        chance = chances(8)
        for _ in range(60):
            for rule in lively_rules(chance):
                found = covers(rule)
                self.assertEqual(rule.triggers(), found[0])
                for one in found:
                    holes = {hole for pattern in one for hole in self.holes_in_text(pattern)}
                    self.assertEqual(holes, set(rule.holes()))
                    for at in range(len(one)):
                        fewer = one[:at] + one[at + 1:]
                        self.assertNotEqual({hole for pattern in fewer for hole in self.holes_in_text(pattern)}, holes)

    def holes_in_text(self, pattern):
        return [word for word in text_of(pattern).replace("(", ",").replace(")", ",").split(",") if word[:1] == "?"]


if __name__ == "__main__":
    unittest.main()
