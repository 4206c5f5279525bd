"""[80] and [81]: rules.py."""

import itertools
import unittest

from helpers import A, B, C, NO_PATTERNS, chain, chances, holes_told, rank, some_small_pattern, wide
from likematch.errors import BadRule, NoCover
from likematch.rules import Rule, covers
from likematch.texts import read_pattern

FX = ("f", "?x")
GX = ("g", "?x")
FXY = ("f", "?x", "?y")


def pair(text):
    """A pair of patterns from a text such as `?x=f(?x)`."""
    return tuple(map(read_pattern, text.split("=")))


def rule_of(text, *when, **more):
    """A rule called r of texts such as `f(?x)=?x`."""
    one, other = pair(text)
    return Rule("r", one, other, when=[pair(row) for row in when], **more)


def within(pattern):
    """All patterns in the pattern, itself too, told plainly."""
    found = {pattern}
    for part in pattern[1:] if isinstance(pattern, tuple) else ():
        found |= within(part)
    return found


def slow_covers(rule):
    """All sets of tuple patterns tried one by one."""
    whole = [rule.one, rule.other] + [pattern for two in rule.when for pattern in two]
    holes = set(holes_told(whole))
    having = [part for part in set().union(*map(within, whole)) if isinstance(part, tuple) and holes_told([part])]
    covering = [set(row) for many in range(len(having) + 1) for row in itertools.combinations(having, many)
                if set(holes_told(row)) == holes]
    least = [sorted(row, key=rank) for row in covering if not any(less < row for less in covering)]
    return sorted(least, key=lambda row: (len(row), [rank(pattern) for pattern in row]))


class Fields(unittest.TestCase):
    def test_what_is_handed_in(self):
        rule = Rule("comm", FXY, ("f", "?y", "?x"))
        self.assertEqual((rule.name, rule.one, rule.other, rule.when, rule.apart),
                         ("comm", FXY, ("f", "?y", "?x"), (), False))
        self.assertIs(rule.apart, False)
        self.assertEqual(rule.holes(), ["?x", "?y"])
        self.assertEqual(rule.triggers(), [FXY])

    def test_by_name(self):
        rule = Rule(other=A, name="r", one=FX, when=[("?x", B)], apart=True, triggers=[GX])
        self.assertEqual((rule.name, rule.one, rule.other, rule.when, rule.apart), ("r", FX, A, (("?x", B),), True))
        self.assertIs(rule.apart, True)
        self.assertEqual(rule.triggers(), [GX])
        with self.assertRaises(TypeError):
            Rule("r", FX, A, [("?x", B)])

    def test_holes_in_the_order_of_one_other_and_when(self):
        self.assertEqual(rule_of("f(?z)=g(?x,?z)", "?y=?x", "a=h(?w)", triggers=[("f", "?w", "?x"), ("f", "?y", "?z")])
                         .holes(), ["?z", "?x", "?y", "?w"])
        self.assertEqual(rule_of("a=b").holes(), [])
        self.assertEqual(rule_of("a=b").triggers(), [])

    def test_what_is_told_and_handed_in_is_apart_from_the_rule(self):
        when = [("?x", B)]
        triggers = [FX]
        rule = Rule("r", FX, A, when=when, triggers=triggers)
        when.append(1)
        triggers.append(GX)
        rule.holes().clear()
        rule.triggers().clear()
        self.assertEqual((rule.when, rule.holes(), rule.triggers()), ((("?x", B),), ["?x"], [FX]))
        self.assertEqual(Rule("r", FX, A, when=tuple(rule.when), triggers=tuple(rule.triggers())), rule)
        self.assertIs(type(rule.when), tuple)
        self.assertIs(type(rule.triggers()), list)

    def test_names_and_bounds_that_are_just_taken(self):
        Rule("abcdefgh", "?x", FX)
        Rule("z", ("f", "?a", "?b", "?c"), ("g", "?d"))
        Rule("r", FX, A, when=[("?x", A), ("?x", B), ("?x", ("g", C))])
        Rule("r", wide(30), chain(5))
        Rule("r", A, A, triggers=[A, B, C, wide(30)])
        Rule("r", FXY, "?x", triggers=[A, FX, ("f", "?y"), FXY])
        inner = ("f", ("f", ("f", ("f", "?x"))))
        self.assertEqual(len(within(inner)) - 1, 4)
        Rule("r", inner, ("g", ("g", ("g", GX))), when=[(("h", ("h", ("h", ("h", "?x")))), A)])

    def test_triggers_that_may_be(self):
        for triggers in ([FXY], [FX, ("g", "?y")], [("g", "?y"), FX], [FX, ("f", "?y", A)], [FXY, ("g", "?y", "?x")],
                         [("h", "?x", FXY), A], (FXY,)):
            self.assertEqual(Rule("r", FXY, A, triggers=triggers).triggers(), list(triggers))
        self.assertEqual(Rule("r", A, B, triggers=[]).triggers(), [])
        self.assertEqual(Rule("r", A, B, triggers=[C]).triggers(), [C])
        # A hole that is in no tuple pattern of the rule may be in one of the triggers.
        self.assertEqual(Rule("r", "?x", A, triggers=[FX]).triggers(), [FX])


class Refused(unittest.TestCase):
    def refused(self, *arguments, **named):
        with self.subTest(arguments=arguments, named=named), self.assertRaises(BadRule):
            Rule(*arguments, **named)

    def test_names(self):
        for name in (None, True, 1, "", "R", "abcdefghi", "a1", "?x", " a", "a ", "a\n", ("a",), ["a"], {}, A):
            self.refused(name, FX, A)

    def test_one_and_other(self):
        for thing in NO_PATTERNS + (wide(31), chain(6)):
            self.refused("r", thing, A)
            self.refused("r", A, thing)

    def test_when(self):
        for thing in (None, True, 1, "", "ab", {}, {A: B}, A, FX, (A, B), [A], [[A, B]], [(A,)], [(A, B, C)], [()], [None],
                      [(A, B)] * 4, ((A, B),) * 4, [(A, "a")], [([], A)], [(A, wide(31))], ["?x?y"], ["?x"]):
            self.refused("r", FX, A, when=thing)
        for thing in NO_PATTERNS:
            self.refused("r", FX, A, when=[(A, A), (thing, A)])
            self.refused("r", FX, A, when=[(A, thing)])

    def test_apart(self):
        for thing in (None, 0, 1, "", "True", (), [], (True,)):
            self.refused("r", FX, A, apart=thing)

    def test_triggers(self):
        for thing in (False, True, 0, "", "?x", {}, {FX: FX}, FX, [None], ["?x"], [FX, "?x"], [FX, FX], [FX, A, A], [["f", "?x"]],
                      [FX, GX, A, B, C], (FX, GX, A, B, C), [A], [("f", "?y")], [FXY], [FX, ("f", "?y")], [FX, wide(31)],
                      [FX, chain(6)], [FX, ()], [FX, ("f", ["?x"])], [], ()):
            self.refused("r", FX, A, triggers=thing)
        self.refused("r", FXY, A, triggers=[FX])
        self.refused("r", A, B, triggers=[FX])
        for thing in NO_PATTERNS:
            self.refused("r", FX, A, triggers=[FX, thing])

    def test_more_than_four_holes(self):
        self.refused("r", ("f", "?a", "?b", "?c"), ("f", "?d", "?e"))
        self.refused("r", ("f", "?a", "?b", "?c"), ("f", "?d"), when=[("?a", "?e")])
        self.refused("r", FX, A, when=[("?a", "?b"), ("?c", "?d")])
        self.refused("r", FX, A, when=[("?a", "?b"), ("?c", "?d")], triggers=[FX, ("f", "?a", "?b"), ("f", "?c", "?d")])

    def test_more_than_twelve_tuple_patterns_with_a_hole(self):
        heads = [("f", ("f", ("f", ("f", "?x")))), ("g", ("g", ("g", GX))), ("h", ("h", ("h", ("h", "?x"))))]
        twelve = dict(when=[(heads[2], ("f", ("f", "?x")))])
        self.assertEqual(Rule("r", heads[0], heads[1], **twelve).holes(), ["?x"])
        # Those without a hole, and like ones, count for nothing; a thirteenth one counts.
        Rule("r", ("k", A, B), heads[1], when=[(heads[0], heads[2]), (("k", A), ("g", ("g", A))), (GX, FX)])
        self.refused("r", heads[0], heads[1], when=[(heads[2], ("k", "?x"))])
        self.refused("r", heads[0], heads[1], when=[(heads[2], ("k", "?x"))], triggers=[FX])
        self.refused("r", heads[0], ("k", heads[1][1], "?y"), when=[(heads[2], ("f", "?y"))])
        self.refused("r", heads[0], ("k", heads[1][1], "?y"), when=[(heads[2], ("f", "?y"))], triggers=[FXY])

    def test_no_cover(self):
        for text, *when in (("?x=a",), ("?x=?x",), ("?x=?y",), ("f(?x)=?y",), ("f(?x)=a", "?y=a"), ("a=b", "?x=f(a)")):
            with self.assertRaises(NoCover):
                rule_of(text, *when)
            with self.assertRaises(NoCover):
                rule_of(text, *when, triggers=None)
        Rule("r", "?x", A, triggers=[FX])

    def test_bad_rule_comes_ahead_of_no_cover(self):
        self.refused("R", "?x", A)
        self.refused("r", "?x", "?y", when=[("?z", "?u"), ("?v", A)])
        self.refused("r", "?x", A, apart=1)


class Equal(unittest.TestCase):
    def test_equal_ones(self):
        self.assertEqual(Rule("r", FX, A), Rule("r", FX, A))
        self.assertEqual(Rule("r", FX, A), Rule(name="r", one=FX, other=A, when=[], apart=False, triggers=[FX]))
        self.assertEqual(Rule("r", FX, A, when=[(FX, A)]), Rule("r", FX, A, when=((FX, A),)))
        self.assertFalse(Rule("r", FX, A) != Rule("r", FX, A))

    def test_unlike_ones(self):
        rules = [Rule("r", FX, A), Rule("s", FX, A), Rule("r", GX, A), Rule("r", FX, B), Rule("r", A, FX),
                 Rule("r", FX, A, apart=True), Rule("r", FX, A, when=[(A, A)]), Rule("r", FX, A, when=[(A, A), (A, A)]),
                 Rule("r", FX, A, triggers=[GX]), Rule("r", FX, A, triggers=[FX, A]), Rule("r", FX, A, triggers=[A, FX])]
        for one, other in itertools.combinations(rules, 2):
            self.assertNotEqual(one, other)
            self.assertFalse(one == other)

    def test_to_nothing_else(self):
        rule = Rule("r", FX, A)
        for thing in (None, True, "r", ("r", FX, A, (), False, [FX]), [rule], (rule,), {}):
            self.assertFalse(rule == thing)
            self.assertTrue(rule != thing)


class Covers(unittest.TestCase):
    def test_plain_ones(self):
        self.assertEqual(covers(rule_of("f(?x)=?x")), [[FX]])
        self.assertEqual(covers(rule_of("f(?x)=g(?x)")), [[FX], [GX]])
        self.assertEqual(covers(rule_of("g(?x)=f(?x)")), [[FX], [GX]])
        self.assertEqual(covers(rule=rule_of("f(?x,?y)=f(?y,?x)")), [[FXY], [("f", "?y", "?x")]])
        self.assertEqual(covers(rule_of("f(g(?x))=a")), [[GX], [("f", GX)]])

    def test_several_together(self):
        self.assertEqual(covers(rule_of("f(?x)=g(?y)")), [[FX, ("g", "?y")]])
        self.assertEqual(covers(rule_of("h(f(?x),g(?y))=a")),
                         [[("h", FX, ("g", "?y"))], [FX, ("g", "?y")]])
        self.assertEqual(covers(rule_of("f(?x,?y)=f(?y,?z)", "f(?z,?w)=a")), [
            [FXY, ("f", "?z", "?w")], ])
        self.assertEqual(covers(rule_of("f(?x,?y)=f(?y,?z)", "f(?z)=f(?x)")), [
            [("f", "?x"), ("f", "?y", "?z")], [("f", "?z"), FXY], [FXY, ("f", "?y", "?z")]])

    def test_of_when(self):
        self.assertEqual(covers(rule_of("?x=?y", "f(?x)=f(?y)")), [[FX, ("f", "?y")]])
        self.assertEqual(rule_of("?x=?y", "f(?x)=f(?y)").triggers(), [FX, ("f", "?y")])

    def test_without_holes(self):
        self.assertEqual(covers(rule_of("a=f(b)")), [[]])
        self.assertEqual(covers(Rule("r", A, B, triggers=[C])), [[]])

    def test_with_a_hole_in_no_tuple_pattern(self):
        self.assertEqual(covers(Rule("r", "?x", FXY[:2] + (A,), triggers=[("f", "?x", A)])), [[("f", "?x", A)]])
        self.assertEqual(covers(Rule("r", "?x", A, triggers=[FX])), [])
        self.assertEqual(covers(Rule("r", FX, "?y", triggers=[FXY])), [])

    def test_the_first_one_stands_for_none(self):
        for rule in (rule_of("h(f(?x),g(?y))=a"), rule_of("f(?x,?y)=f(?y,?z)", "f(?z)=f(?x)"), rule_of("a=b")):
            self.assertEqual(rule.triggers(), covers(rule)[0])
        self.assertEqual(covers(Rule("r", FX, A, triggers=[GX])), [[FX]])

    def test_lists_are_the_askers_own(self):
        rule = rule_of("f(?x)=?x")
        covers(rule)[0].append(A)
        covers(rule).clear()
        self.assertEqual(covers(rule), [[FX]])
        self.assertEqual(rule.triggers(), [FX])

    def test_all_sets_tried_one_by_one(self):
        chance = chances(81)
        many = 0
        for _ in range(400):
            pick = [(chance.choice("fgh"), some_small_pattern(chance, 3, ("?x", "?y", "?z", "?w")), chance.choice(
                ("?x", "?y", A)))[:chance.choice((1, 2, 3, 3))] for _ in range(2 * chance.randrange(1, 4))]
            pick[1] = chance.choice((pick[1], "?x", "?v")) if len(holes_told(pick)) < 4 else pick[1]
            triggers = [("k",) + tuple(row) for row in (holes_told(pick)[:2], holes_told(pick)[2:]) if row]
            more = dict(when=list(zip(pick[2::2], pick[3::2])), triggers=triggers)
            if sum(1 for part in set().union(*map(within, pick)) if isinstance(part, tuple) and holes_told([part])) > 12:
                self.assertRaises(BadRule, Rule, "r", pick[0], pick[1], **more)
                continue
            rule = Rule("r", pick[0], pick[1], **more)
            expected = slow_covers(rule)
            self.assertEqual(covers(rule), expected, pick)
            many += len(expected) > 2
            if expected:
                self.assertEqual(Rule("r", rule.one, rule.other, when=rule.when).triggers(), expected[0])
            else:
                with self.assertRaises(NoCover):
                    Rule("r", rule.one, rule.other, when=rule.when)
        self.assertGreater(many, 60)

    def test_twelve_patterns_with_four_holes(self):
        rule = rule_of("f(f(?a,?b),f(?c,?d))=g(g(?a),g(?b))", "f(?a,?c)=g(?c)", "h(?d)=h(?a,?b,?c)", "h(?b,?d)=h(?d,?a)")
        self.assertEqual(len(set().union(*map(within, [rule.one, rule.other] + [p for row in rule.when for p in row]))) - 4,
                         12)
        self.assertEqual(covers(rule), slow_covers(rule))


if __name__ == "__main__":
    unittest.main()
