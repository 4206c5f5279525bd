"""Rounds: what rules bring into a web, one round behind another."""

from likematch.finders import as_now
from likematch.matches import joint
from likematch.rules import refuse_no_rules
from likematch.terms import filled

MOST_ROUNDS = 6


def are_alike_filled(web, pairs, fill):
    """Whether the filled patterns of all pairs are alike; none is looked at behind the first that aren't."""
    for one, other in pairs:
        if not web.alike(filled(one, fill), filled(other, fill)):
            return False
    return True


def ordered(filling, holes):
    """The filling in this order of its holes."""
    fill = dict(filling)
    return tuple([(hole, fill[hole]) for hole in holes])


def say(web, rule, filling):
    """Tell the web what the rule says of this filling; the number of the telling, or None where there is none."""
    fill = dict(filling)
    one = filled(rule.one, fill)
    other = filled(rule.other, fill)
    if rule.apart:
        return None if (one, other) in list(web.parted().values()) else web.unlike(one, other)
    if not web.alike(one, other):
        return web.like(one, other)
    web.put(one)
    web.put(other)
    return None


class Rounds:
    """A web of its own, some rules, and what they brought into it."""

    def __init__(self, web, rules):
        refuse_no_rules(rules)
        self.web = web.twin()  # another one behind each round, so that none is ever half done
        self.ruling = list(rules)
        self.brought = []  # triples of a round's number, an instance and the number of its telling

    def bring(self):
        """Do a round: its instances."""
        found = self._found()
        web = self.web.twin()
        number = 1 + max([row[0] for row in self.brought], default=0)
        more = [(number, (rule.name, filling), say(web, rule, filling)) for rule, filling in found]
        self.web = web
        self.brought = self.brought + more
        return [row[1] for row in more]

    def run(self, most=MOST_ROUNDS):
        """Do rounds until one brings no instance, at most so many: how many brought one."""
        # Others are brought them, so that all is as ahead where one of the rounds is refused.
        other = Rounds(self.web, self.ruling)
        other.brought = self.brought
        many = 0
        while many < most and len(other.bring()) > 0:
            many += 1
        self.web = other.web
        self.brought = other.brought
        return many

    def is_quiet(self):
        """Whether a round would bring no instance."""
        return len(self._found()) == 0

    def reached(self):
        """A twin of the web as it stands."""
        return self.web.twin()

    def rules(self):
        """The rules."""
        return list(self.ruling)

    def instances(self):
        """All instances so far, each with its round's number ahead and its telling's number behind it."""
        return list(self.brought)

    def _found(self):
        """The instances that a round would bring: pairs of a rule and a filling."""
        found = []
        for rule in self.ruling:
            names = rule.holes()
            before = {as_now(self.web, row[1][1]): True for row in self.brought if row[1][0] == rule.name}
            for filling in [ordered(one, names) for one in joint(self.web, rule.triggers())]:
                if filling not in before and are_alike_filled(self.web, rule.when, dict(filling)):
                    found.append((rule, filling))
        return found
