"""Rules: what is alike, or unlike, for all fillings, and the patterns by which these are found."""

from itertools import combinations

from likematch.errors import BadRule, BadRules, NoCover
from likematch.matches import MOST_HOLES, MOST_PATTERNS, all_in, holes_in
from likematch.terms import holes_of, is_name, is_pattern, order_of

MOST_WHEN = 3
MOST_WITHIN = 12
MOST_RULES = 8


def is_condition(thing):
    """Whether thing is a pair of patterns."""
    return isinstance(thing, tuple) and len(thing) == 2 and is_pattern(thing[0]) and is_pattern(thing[1])


def refuse_no_when(thing):
    """Refuse what is no list of so few pairs of patterns."""
    if not isinstance(thing, (list, tuple)) or len(thing) > MOST_WHEN:
        raise BadRule("its conditions are no list of so few pairs")
    if not all([is_condition(pair) for pair in thing]):
        raise BadRule("its conditions are no pairs of patterns")


def with_holes(patterns):
    """The tuple patterns with a hole that are among the patterns or in them, each once."""
    return [part for part in all_in(patterns) if isinstance(part, tuple) and len(holes_of(part)) > 0]


def refuse_too_great(patterns):
    """Refuse patterns of a rule that have too many holes in all, or too many tuple patterns with a hole."""
    if len(holes_in(patterns)) > MOST_HOLES:
        raise BadRule("it has more holes than may be")
    if len(with_holes(patterns)) > MOST_WITHIN:
        raise BadRule("it has more patterns with holes than may be")


def refuse_no_triggers(thing, holes):
    """Refuse what is no list of so few unlike tuple patterns with just these holes."""
    if not isinstance(thing, (list, tuple)) or len(thing) > MOST_PATTERNS:
        raise BadRule("its triggers are no list of so few patterns")
    if not all([isinstance(pattern, tuple) and is_pattern(pattern) for pattern in thing]):
        raise BadRule("its triggers are no tuple patterns")
    if len(set(thing)) < len(thing):
        raise BadRule("one of its triggers stands there twice")
    if sorted(holes_in(thing)) != sorted(holes):
        raise BadRule("its triggers do not have just its holes")


def is_least_cover(patterns, holes):
    """Whether the patterns together have all of these holes, and each has one that no other of them has."""
    having = {hole: [pattern for pattern in patterns if hole in holes_of(pattern)] for hole in holes}
    alone = [having[hole][0] for hole in holes if len(having[hole]) == 1]
    return all([len(having[hole]) > 0 for hole in holes]) and all([pattern in alone for pattern in patterns])


def least_covers(whole):
    """The least sets of tuple patterns in these whole ones that have all of their holes, in order."""
    holes = holes_in(whole)
    rising = sorted(with_holes(whole), key=order_of)
    found = []
    # In a least set each pattern has a hole that no other has, so there are no more of them than holes.
    for many in range(len(holes) + 1):
        found.extend([list(row) for row in combinations(rising, many) if is_least_cover(row, holes)])
    return found


def first_cover(whole):
    """The first of the least sets of tuple patterns in these whole ones that have all of their holes."""
    found = least_covers(whole)
    if len(found) == 0:
        raise NoCover("it has a hole that stands in no tuple pattern")
    return found[0]


class Rule:
    """For all fillings of its holes: where the pairs of when are alike, one and other are, or are unlike if apart."""

    def __init__(self, name, one, other, *, when=(), apart=False, triggers=None):
        if not is_name(name):
            raise BadRule("its name is none")
        if not is_pattern(one) or not is_pattern(other):
            raise BadRule("what it tells is no two patterns")
        refuse_no_when(when)
        if not isinstance(apart, bool):
            raise BadRule("whether it is apart is no truth")
        self.name = name
        self.one = one
        self.other = other
        self.when = tuple(when)
        self.apart = apart
        whole = whole_ones(self)
        refuse_too_great(whole)
        if triggers is None:
            self.chosen = first_cover(whole)
        else:
            refuse_no_triggers(triggers, holes_in(whole))
            self.chosen = list(triggers)

    def holes(self):
        """The holes of one, other and when, each once, in the order in which they first stand."""
        return holes_in(whole_ones(self))

    def triggers(self):
        """The patterns whose fillings are those that the rule is looked at for."""
        return list(self.chosen)

    def __eq__(self, other):
        return isinstance(other, Rule) and parts_of(self) == parts_of(other)


def whole_ones(rule):
    """The patterns one, other and those of when, as often as they stand there."""
    return [rule.one, rule.other] + [pattern for pair in rule.when for pattern in pair]


def parts_of(rule):
    """All by which rules are equal."""
    return (rule.name, rule.one, rule.other, rule.when, rule.apart, rule.triggers())


def covers(rule):
    """All least sets of tuple patterns with a hole in the rule that together have all of its holes."""
    return least_covers(whole_ones(rule))


def refuse_no_rules(thing):
    """Refuse what is no list of so few rules with unlike names."""
    if not isinstance(thing, (list, tuple)) or len(thing) > MOST_RULES:
        raise BadRules("this is no list of so few rules")
    if not all([isinstance(rule, Rule) for rule in thing]):
        raise BadRules("this is no list of rules")
    if len({rule.name for rule in thing}) < len(thing):
        raise BadRules("two of these rules have one name")
