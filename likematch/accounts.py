"""Accounts: why two terms are alike by tellings and rules, the judge that walks them, and one that writes them."""

from likematch.errors import NotReached
from likematch.papers import paper_by, says, tellings, terms_of
from likematch.rules import refuse_no_rules
from likematch.terms import exchanged, filled, is_below, is_pair, is_term
from likematch.webs import Likeness

MOST_STEPS = 40
FIRST_STEP = 1001


def is_filling(thing, holes):
    """Whether thing is a filling of just these holes, in this order."""
    if not isinstance(thing, tuple):
        return False
    if not all([isinstance(pair, tuple) and len(pair) == 2 and is_term(pair[1]) for pair in thing]):
        return False
    return [hole for hole, _ in thing] == holes


def papers_say(told, papers, pairs):
    """Whether papers is a list of one paper for each of these pairs."""
    if not isinstance(papers, (list, tuple)) or len(papers) != len(pairs):
        return False
    # A pair beyond the bounds is told by no paper.
    return all([says(told, paper) == pair for paper, pair in zip(papers, pairs)])


def step_pair(told, rules, step):
    """The pair that the step tells behind what was told so far, by rules by their names, or None where it is none."""
    if not isinstance(step, tuple) or len(step) != 3:
        return None
    name, filling, papers = step
    if not isinstance(name, str) or name not in rules:
        return None
    rule = rules[name]
    if rule.apart or not is_filling(filling, rule.holes()):
        return None
    fill = dict(filling)
    needed = [(exchanged(one, fill), exchanged(other, fill)) for one, other in rule.when]
    pair = (exchanged(rule.one, fill), exchanged(rule.other, fill))
    return pair if papers_say(told, papers, needed) and is_pair(pair) else None


def shown(told, rules, account):
    """The pair that the account shows by these tellings and rules, or None where it is no account by them."""
    refuse_no_rules(rules)
    if not isinstance(account, tuple) or len(account) != 2:
        return None
    steps, paper = account
    if not isinstance(steps, (list, tuple)) or len(steps) > MOST_STEPS:
        return None
    by_name = {rule.name: rule for rule in rules}
    known = {number: told[number] for number in told if is_below(number, FIRST_STEP) and number > 0}
    for number, step in enumerate(steps, start=FIRST_STEP):
        pair = step_pair(known, by_name, step)
        if pair is None:
            return None
        known[number] = pair
    return says(known, paper)


class Link:
    """What makes a pair alike where it counts: a telling handed in, or an instance that was brought."""

    def __init__(self, number, pair, instance, when):
        self.number = number
        self.pair = pair
        self.instance = instance  # None of a telling handed in
        self.when = when  # the pairs that must be alike ahead of it


def link_of(number, pair, instance, rules):
    """The link of an instance of one of the rules, which are by their names, or of a telling handed in."""
    if instance is None:
        return Link(number, pair, None, [])
    name, filling = instance
    fill = dict(filling)
    when = [(filled(one, fill), filled(other, fill)) for one, other in rules[name].when]
    return Link(number, pair, instance, when)


def links_of(rounds):
    """All that makes terms alike in the web as it stands, in the order in which it was told."""
    rules = {rule.name: rule for rule in rounds.rules()}
    brought = {number: instance for _, instance, number in rounds.instances()}
    told = rounds.reached().told()
    return [link_of(number, told[number], brought.get(number, None), rules) for number in told]


def are_alike_by(links, one, other):
    """Whether the two are alike by those of the links that count."""
    likeness = Likeness(terms_of([link.pair for link in links]), [])
    for link in links:
        if all([likeness.alike(near, far) for near, far in link.when]):
            near, far = link.pair
            likeness.tell(near, far)
    return likeness.alike(one, other)


def needed_links(links, one, other):
    """Such of the links, by which the two are alike, that none of them can be left out."""
    kept = links
    for number in reversed([link.number for link in links]):
        fewer = [link for link in kept if link.number != number]
        # The fewer links there are, the fewer count, so one that is needed here is needed at the end, too.
        if are_alike_by(fewer, one, other):
            kept = fewer
    return kept


def account_by(links, one, other):
    """An account of these two, which are alike by the links, all of which count."""
    told = {link.number: link.pair for link in links if link.instance is None}
    steps = []
    for link in links:
        if link.instance is not None:
            name, filling = link.instance
            papers = [paper_by(told, near, far) for near, far in link.when]
            told[FIRST_STEP + len(steps)] = link.pair
            steps.append((name, filling, papers))
    return (steps, paper_by(told, one, other))


def account_of(rounds, one, other):
    """An account of these two by what was told to the web handed in and what was brought."""
    if not rounds.reached().alike(one, other):
        raise NotReached("no round so far makes these two alike")
    # Steps of which none can be left out are all named: without one that no paper names, the papers would still do.
    return account_by(needed_links(links_of(rounds), one, other), one, other)


def used(account):
    """The rising numbers of tellings, and the rising places of steps, that the account's papers name."""
    steps, paper = account
    papers = [one for step in steps for one in step[2]] + [paper]
    numbers = sorted({number for one in papers for number in tellings(one)})
    return ([number for number in numbers if number < FIRST_STEP],
            [number - FIRST_STEP for number in numbers if number >= FIRST_STEP])
