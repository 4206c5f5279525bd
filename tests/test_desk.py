"""[120]: told.py and desk.py."""

import unittest

from helpers import chances, rule_of, some_rows, text_of
from likematch.clashes import clash
from likematch.desk import Desk, answers
from likematch.errors import MatchError
from likematch.matches import matches
from likematch.papers import paper_of, tellings
from likematch.rounds import Rounds
from likematch.rules import Rule
from likematch.texts import read_pattern
from likematch.webs import Web

TOO_DEEP = "f(f(f(f(f(a)))))"


def desk_behind(*rows):
    desk = Desk()
    for row in rows:
        desk.answer(row)
    return desk


class Rows(unittest.TestCase):
    def told(self, *pairs):
        """A desk that answered each row, given as `row > answer`, as it is told."""
        desk = Desk()
        for pair in pairs:
            row, _, answer = pair.partition(" > ")
            with self.subTest(row=row):
                self.assertEqual(desk.answer(row), answer)
        return desk

    def test_put_and_tellings(self):
        self.told("put f(a,b) > ok", "like a b > 1", "unlike a c > 2", "unlike a c > 3", "like a a > 4", "put a > ok",
                  "classes > a=b c f(a,b)")

    def test_alike(self):
        self.told("alike a a > yes", "alike a b > no", "like a b > 1", "alike b a > yes", "alike f(a) f(b) > yes",
                  "alike f(a) g(a) > no")

    def test_least(self):
        self.told("least a > none", "put f(b) > ok", "like b a > 1", "least b > a", "least f(a) > f(b)", "least g(a) > none")

    def test_classes(self):
        self.told("classes > none", "put g(b,a) > ok", "classes > a b g(b,a)", "like g(b,a) b > 1",
                  "like c a > 2", "classes > a=c b=g(b,a)")

    def test_match(self):
        self.told("match ?x > none", "put f(a,b) > ok", "match f(?x,?y) > f(a,b):?x=a,?y=b", "match f(a,b) > f(a,b)",
                  "match f(?x,b) > f(a,b):?x=a", "match f(b,?x) > none", "put f(b,g(a)) > ok", "match a > a",
                  "match f(?x,?y) > f(a,b):?x=a,?y=b; f(b,g(a)):?x=b,?y=g(a)",
                  "match ?x > a:?x=a; b:?x=b; g(a):?x=g(a); f(a,b):?x=f(a,b); f(b,g(a)):?x=f(b,g(a))")

    def test_rules_and_rounds(self):
        self.told("rule comm f(?x,?y) f(?y,?x) > ok", "put f(a,b) > ok", "rounds 0 > 0", "alike f(a,b) f(b,a) > no",
                  "rounds 9 > 2", "alike f(a,b) f(b,a) > yes", "rounds 9 > 1", "classes > a b f(a,b)=f(b,a)")

    def test_conditions(self):
        self.told("rule inj ?x ?y f(?x) f(?y) > ok", "like f(a) f(b) > 1", "rounds 1 > 1", "alike a b > yes",
                  "rule two ?x k g(?x) c ?x d > ok", "put g(d) > ok", "rounds 3 > 1", "alike d k > no", "like g(d) c > 3",
                  "rounds 3 > 1", "alike d k > yes", "rule three ?x m g(?x) g(?x) ?x ?x f(?x) f(?x) > ok")

    def test_rules_that_are_apart(self):
        self.told("diff no f(?x) ?x > ok", "put f(a) > ok", "rounds 5 > 1", "clash > none", "like f(a) a > 2", "clash > 1",
                  "diff yes f(?x) ?x g(?x) b > ok", "like g(a) b > 3", "rounds 5 > 1")

    def test_a_rule_takes_the_place_of_an_elder_one(self):
        self.told("rule r f(?x) a > ok", "rule s f(?x) b > ok", "rule r f(?x) c > ok", "put f(d) > ok", "rounds 1 > 1",
                  "alike f(d) a > no", "alike f(d) c > yes", "alike f(d) b > yes")
        # The first of these is told first, and the other one then, with a number of its own.
        for rows in (("rule r a b", "rule s c d"), ("rule r x y", "rule s c d", "diff r a b", "rule r a b")):
            desk = desk_behind(*rows)
            self.assertEqual(desk.answer("rounds 9"), "1")
            self.assertEqual((desk.answer("why a b"), desk.answer("why c d")), ("1", "2"))
        desk = desk_behind("rule r a b", "rule s c d", "diff r a b", "rounds 9")
        self.assertEqual((desk.answer("why a b"), desk.answer("why c d")), ("refused notalike", "2"))

    def test_a_refused_rule_leaves_the_elder_one(self):
        self.told("rule r a b > ok", "rule r ?x b > refused nocover", "rule r a c a a a a a a a a > refused badrule",
                  "rounds 1 > 1", "alike a b > yes")

    def test_a_ninth_rule(self):
        desk = desk_behind(*[f"rule r{name} a b" for name in "abcdefgh"])
        self.assertEqual(desk.answer("rounds 0"), "0")
        self.assertEqual(desk.answer("rule ra a c"), "ok")
        self.assertEqual(desk.answer("rounds 0"), "0")
        self.assertEqual(desk.answer("rule ri a b"), "ok")
        for number in range(10):
            self.assertEqual(desk.answer(f"rounds {number}"), "refused badrules")
        self.assertEqual(desk.answer("alike a b"), "no")

    def test_rounds_by_0_to_9(self):
        for number in range(10):
            desk = desk_behind("put h", *[f"rule s{one} {one} {two} {one} {one}"
                                          for one, two in zip("hijklmno", "ijklmnop")])
            # Each rule is found from the start, as it has no holes.
            self.assertEqual(desk.answer(f"rounds {number}"), str(min(number, 1)))
        for number in range(10):
            desk = desk_behind("like v(a) k", *[f"put n({one},{two})" for one, two in zip("abcdefghij", "bcdefghijz")],
                               "rule next v(?y) k v(?x) k n(?x,?y) n(?x,?y)")
            self.assertEqual(desk.answer(f"rounds {number}"), str(number))
            self.assertEqual(desk.answer("alike v(j) k"), "yes" if number == 9 else "no")

    def test_the_web_behind_rounds_is_taken_back_deed_by_deed(self):
        self.told("put f(a,b) > ok", "rule comm f(?x,?y) f(?y,?x) > ok", "rounds 9 > 2", "back > ok", "back > ok",
                  "alike f(a,b) f(b,a) > yes", "back > ok", "alike f(a,b) f(b,a) > no", "classes > a b f(a,b)", "back > ok",
                  "classes > none", "back > refused nodeed", "again > ok", "again > ok", "why f(b,a) f(a,b) > 1", "again > ok",
                  "again > ok", "again > refused nodeed")

    def test_what_was_taken_back_stays_so_behind_rounds_that_do_nothing(self):
        self.told("put a > ok", "put b > ok", "back > ok", "rounds 9 > 0", "again > ok", "classes > a b")
        self.told("put a > ok", "put b > ok", "back > ok", "rule r a c > ok", "rounds 9 > 1", "again > refused nodeed")

    def test_refused_rounds_leave_the_web(self):
        self.told("put n(a) > ok", "rule r n(?x) n(s(?x)) > ok", "put b > ok", "back > ok", "rounds 9 > refused toogreat",
                  "classes > a n(a)", "again > ok", "rounds 3 > 3", "rounds 1 > refused toogreat")

    def test_why(self):
        self.told("why a a > -", "why a b > refused notalike", "like a b > 1", "unlike a c > 2", "like b d > 3", "why a b > 1",
                  "why f(a) f(d) > 1 3", "why d a > 1 3", "why f(z) f(z) > -")

    def test_clash(self):
        self.told("clash > none", "unlike a b > 1", "clash > none", "unlike c c > 2", "clash > 2", "like a b > 3", "clash > 1")

    def test_back_and_again(self):
        self.told("back > refused nodeed", "again > refused nodeed", "put a > ok", "again > refused nodeed", "back > ok",
                  "classes > none", "again > ok", "classes > a", "back > ok", "put b > ok", "again > refused nodeed")


class Forms(unittest.TestCase):
    def test_blanks(self):
        desk = desk_behind("  put   f(a,b)  ", " like  a b")
        self.assertEqual(desk.answer("classes"), "a=b f(a,b)")
        self.assertEqual(desk.answer("  alike a   b "), "yes")
        for row in ("", " ", "     "):
            self.assertEqual(desk.answer(row), "")

    def test_by_name(self):
        self.assertEqual(Desk().answer(row="put a"), "ok")
        self.assertEqual(answers(text="put a"), ["ok"])

    def test_patterns_have_no_blanks(self):
        self.assertEqual(Desk().answer("put f(a, b)"), "what")
        self.assertEqual(Desk().answer("like f(a, b)"), "refused notext")
        self.assertEqual(Desk().answer("match f (?x)"), "what")

    def test_words_of_a_wrong_form(self):
        for row in ("what", "Put a", "PUT a", "puts a", "pu a", "a", "f(a)", "?x", "ok", "0", "put,a", "answer", "log", "twin",
                    "put\ta", "\t", "\n", "match\n", "rules", "joint ?x"):
            self.assertEqual(Desk().answer(row), "what", row)

    def test_wrong_numbers_of_words(self):
        many = {"put": 1, "like": 2, "unlike": 2, "alike": 2, "least": 1, "classes": 0, "match": 1, "why": 2, "clash": 0,
                "back": 0, "again": 0}
        for word, right in many.items():
            for number in range(5):
                for thing in ("a", "!"):
                    answer = Desk().answer(" ".join([word] + [thing] * number))
                    self.assertEqual(answer == "what", number != right, (word, number))

    def test_wrong_numbers_of_patterns_in_rules(self):
        for word in ("rule", "diff"):
            for number in range(13):
                for thing in ("a", "!"):
                    answer = Desk().answer(" ".join([word, "r"] + [thing] * number))
                    if number == 0 or number % 2:
                        self.assertEqual(answer, "what")
                    elif thing == "!":
                        self.assertEqual(answer, "refused notext")
                    else:
                        self.assertEqual(answer, "ok" if number <= 8 else "refused badrule")
            self.assertEqual(Desk().answer(word), "what")

    def test_names_that_are_none(self):
        for word in ("rule", "diff"):
            for name in ("R", "abcdefghi", "a1", "?x", "f(a)", "r,", "1", "-", "r\t"):
                for more in ("a b", "! b", "a b a a a a a a a a", "?x a"):
                    self.assertEqual(Desk().answer(f"{word} {name} {more}"), "what")
            self.assertEqual(Desk().answer(f"{word} abcdefgh a b"), "ok")

    def test_figures(self):
        for thing in ("10", "00", "01", "12", "123", "0123456789", "-1", "+1", "x", "?x", "one", "1.", "a", "1 2", "", "\t1"):
            self.assertEqual(Desk().answer(f"rounds {thing}"), "what", thing)
        for figure in "0123456789":
            self.assertEqual(Desk().answer(f"rounds {figure}"), "0")

    def test_patterns_that_cannot_be_read_come_ahead_of_all_else_that_is_refused(self):
        for thing in ("!", "f(", "A", "?abcde", "abcdefghi", "f()", "f(a,b,c,d)", TOO_DEEP, "a\t", "a\n", "(a)"):
            for row in ("put {}", "like {} a", "like ?x {}", "unlike {} ?x", "alike ?x {}", "least {}", "match {}", "why a {}",
                        "why {} ?x", "rule r {} a", "rule r ?x {}", "diff r a a a {}", "rule r a a a a a a a a a {}"):
                self.assertEqual(Desk().answer(row.format(thing)), "refused notext", row)

    def test_each_refusal_has_its_word(self):
        for row in ("put ?x", "like a ?x", "like f(?x) a", "unlike ?x a", "alike a ?x", "least ?x", "why ?x a"):
            self.assertEqual(Desk().answer(row), "refused badterm")
        self.assertEqual(Desk().answer("why a b"), "refused notalike")
        self.assertEqual(Desk().answer("back"), "refused nodeed")
        self.assertEqual(Desk().answer("rule r ?x a"), "refused nocover")
        self.assertEqual(Desk().answer("rule r f(?a,?b,?c) f(?d,?e)"), "refused badrule")
        full = desk_behind(*["like a a"] * 40)
        self.assertEqual(full.answer("like a a"), "refused toomany")
        self.assertEqual(full.answer("unlike a b"), "refused toomany")
        self.assertEqual(full.answer("put b"), "ok")
        self.assertEqual(desk_behind("put n(a)", "rule r n(?x) n(s(?x))").answer("rounds 9"), "refused toogreat")
        many = desk_behind(*[f"put f({one},{two})" for one in "abcdefg" for two in "abcdefg"], "rule r f(?x,?y) f(?z,?u) a b")
        self.assertEqual(many.answer("rounds 1"), "refused toomany")

    def test_what_is_refused_changes_nothing(self):
        desk = desk_behind("put f(a)", "put b", "back")
        for row in ("put ?x", "put !", "what", "like a ?x", "why a b", "rule r ?x a", "rounds x", "put", "", "match f("):
            desk.answer(row)
        self.assertEqual(desk.answer("again"), "ok")
        self.assertEqual(desk.answer("classes"), "a b f(a)")

    def test_two_desks_are_apart(self):
        one, other = Desk(), Desk()
        one.answer("put a")
        one.answer("rule r a b")
        self.assertEqual(other.answer("classes"), "none")
        self.assertEqual(other.answer("rounds 9"), "0")


class Answers(unittest.TestCase):
    def test_rows_are_what_line_feeds_part(self):
        self.assertEqual(answers("put a\nlike a b\nclasses"), ["ok", "1", "a=b"])
        self.assertEqual(answers("put a\nclasses\n"), ["ok", "a", ""])
        self.assertEqual(answers("\nput a\n\n  \nclasses\n\n"), ["", "ok", "", "", "a", "", ""])
        self.assertEqual(answers(""), [""])
        self.assertEqual(answers("\n"), ["", ""])
        self.assertEqual(answers("put a\tclasses"), ["refused notext"])

    def test_a_new_desk_each_time(self):
        text = "put f(a)\nrule r f(?x) ?x\nrounds 3\nclasses"
        self.assertEqual(answers(text), ["ok", "ok", "1", "a=f(a)"])
        self.assertEqual(answers(text), answers(text))
        self.assertEqual(answers("classes"), ["none"])


class Against(unittest.TestCase):
    """The desk against what it is made of, over many rows."""

    def row_of(self, chance):
        word = chance.choice(("put", "like", "unlike", "alike", "least", "classes", "match", "why", "clash", "back", "again",
                              "rounds"))
        if word == "rounds":
            return word, [chance.randrange(3)]
        terms = [row for row in some_rows(chance, 3) if row[0] != "put"]
        pair = list(terms[0][1:]) if terms else [("a",), ("b",)]
        if word == "match":
            return word, [(pair[0][0],) + ("?x", "?y", "?z")[:len(pair[0]) - 1]]
        return word, pair[:{"put": 1, "least": 1, "classes": 0, "clash": 0, "back": 0, "again": 0}.get(word, 2)]

    def expected(self, web, rules, word, things):
        """The answer, and the web behind it."""
        try:
            if word == "rounds":
                rounds = Rounds(web, rules)
                return str(rounds.run(things[0])), rounds.reached()
            if word in ("put", "back", "again"):
                getattr(web, word)(*things)
                return "ok", web
            if word in ("like", "unlike"):
                return str(getattr(web, word)(*things)), web
            if word == "alike":
                return {True: "yes", False: "no"}[web.alike(*things)], web
            if word == "least":
                return text_of(web.least(*things) or ("none",)), web
            if word == "classes":
                return " ".join("=".join(map(text_of, row)) for row in web.classes()) or "none", web
            if word == "clash":
                return str((clash(web) or ("none",))[0]), web
            if word == "why":
                return " ".join(map(str, tellings(paper_of(web, *things)))) or "-", web
            rows = [text_of(term) + (":" if filling else "") + ",".join(f"{hole}={text_of(one)}" for hole, one in filling)
                    for term, filling in matches(web, *things)]
            return "; ".join(rows) or "none", web
        except MatchError as refusal:
            return "refused " + type(refusal).__name__.lower(), web

    def test_many_rows(self):
        chance = chances(120)
        seen = {}
        for _ in range(60):
            desk, web = Desk(), Web()
            rules = [rule_of("turn", "f(?x,?y)=f(?y,?x)"), rule_of("flat", "g(?x)=?x", "f(?x)=f(?x)", apart=True)]
            self.assertEqual(desk.answer("rule turn f(?x,?y) f(?y,?x)"), "ok")
            self.assertEqual(desk.answer("diff flat g(?x) ?x f(?x) f(?x)"), "ok")
            for _ in range(25):
                word, things = self.row_of(chance)
                row = " ".join([word] + [text_of(thing) if word != "rounds" else str(thing) for thing in things])
                answer, web = self.expected(web, rules, word, things)
                self.assertEqual(desk.answer(row), answer, web.log())
                seen.setdefault(word, {})[answer] = True
        self.assertLessEqual({word for word in seen if len(seen[word]) == 1}, {"put", "clash"})
        self.assertEqual(len(seen), 12)

    def test_rules_as_they_are_told(self):
        for row, rule in (("rule r f(?x) ?x", rule_of("r", "f(?x)=?x")),
                          ("diff r f(?x) ?x", rule_of("r", "f(?x)=?x", apart=True)),
                          ("rule r a b c d e f", Rule("r", ("a",), ("b",), when=[(("c",), ("d",)), (("e",), ("f",))]))):
            for texts in (["f(a)"], ["c=d"], ["c=d", "e=f"], ["a=b"]):
                desk, web = Desk(), Web()
                for text in texts:
                    pair = text.split("=")
                    desk.answer(" ".join(["put" if len(pair) == 1 else "like"] + pair))
                    (web.put if len(pair) == 1 else web.like)(*map(read_pattern, pair))
                self.assertEqual(desk.answer(row), "ok")
                rounds = Rounds(web, [rule])
                self.assertEqual(desk.answer("rounds 4"), str(rounds.run(4)))
                reached = rounds.reached()
                while reached.log():
                    self.assertEqual(desk.answer("classes"), " ".join("=".join(map(text_of, row))
                                                                      for row in reached.classes()))
                    self.assertEqual(desk.answer("back"), "ok")
                    reached.back()
                self.assertEqual(desk.answer("back"), "refused nodeed")


if __name__ == "__main__":
    unittest.main()
