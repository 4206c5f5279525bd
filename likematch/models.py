"""Models: tables in which rules hold, and one that keeps all that was told."""

from likematch.errors import BadRule, TooMany
from likematch.rules import Rule, refuse_no_rules
from likematch.tables import refuse_no_table, table_of, worth

MOST_TRIED = 20000


def refuse_too_many(size, rule):
    """Refuse a rule with more ways to give its holes so many worths than may be tried."""
    many = 1
    for _ in rule.holes():
        many = many * size
    if many > MOST_TRIED:
        raise TooMany("there are more ways to fill its holes than may be tried")


def all_rows(size, many):
    """All rows of so many of the numbers below size."""
    rows = [()]
    for _ in range(many):
        rows = [row + (number,) for row in rows for number in range(size)]
    return rows


def fits_at(table, rule, worths):
    """Whether what the rule says is so in the table with these worths in its holes."""
    for one, other in rule.when:
        if worth(table, one, worths) != worth(table, other, worths):
            return True
    is_same = worth(table, rule.one, worths) == worth(table, rule.other, worths)
    return is_same != rule.apart


def fits(table, rule):
    """Whether the rule holds in the table, with whatever worths in its holes."""
    holes = rule.holes()
    for row in all_rows(table[0], len(holes)):
        if not fits_at(table, rule, dict(zip(holes, row))):
            return False
    return True


def fit_all(table, rules):
    """Whether all the rules hold in the table."""
    for rule in rules:
        if not fits(table, rule):
            return False
    return True


def holds(table, rule):
    """Whether the rule holds in the table."""
    refuse_no_table(table)
    if not isinstance(rule, Rule):
        raise BadRule("this is no rule")
    refuse_too_many(table[0], rule)
    return fits(table, rule)


def model_of(web, rules, *, more=()):
    """A table that keeps all that was told to the web, alike and unlike, and in which the rules hold, or None."""
    refuse_no_rules(rules)
    size, rows, _ = table_of(web, more=more)
    for rule in rules:
        refuse_too_many(size, rule)
    # Terms that stand in the web are worth what the rows tell, whatever the rest is.
    if any([web.alike(one, other) for one, other in web.parted().values()]):
        return None
    for rest in range(size):
        table = (size, rows, rest)
        if fit_all(table, rules):
            return table
    return None
