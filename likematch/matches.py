"""Matches: where patterns stand in a web, up to likeness."""

from likematch.errors import BadTerms, TooMany
from likematch.tables import table_of, worth
from likematch.terms import all_within, holes_of, is_pattern, refuse_no_fill, refuse_no_pattern, refuse_no_term

MOST_FOUND = 300
MOST_PATTERNS = 4
MOST_HOLES = 4


def all_in(patterns):
    """The patterns and all patterns in them, each once, each ahead of those that are in it alone."""
    return list({part: True for pattern in patterns for part in all_within(pattern)})


def holes_in(patterns):
    """The holes of the patterns, each once, in the order in which they first stand."""
    return [part for part in all_in(patterns) if isinstance(part, str)]


def refuse_no_patterns(thing):
    """Refuse what is no list of so few patterns with so few holes in all."""
    if not isinstance(thing, (list, tuple)) or len(thing) > MOST_PATTERNS:
        raise BadTerms("this is no list of so few patterns")
    if not all([is_pattern(pattern) for pattern in thing]):
        raise BadTerms("this is no list of patterns")
    if len(holes_in(thing)) > MOST_HOLES:
        raise BadTerms("these patterns have more holes than may be")


def by_heads(rows):
    """The rows of a table by head and number of parts: lists of pairs of a class and the classes of the parts."""
    found = {}
    for head, parts in rows:
        found.setdefault((head, len(parts)), []).append((rows[head, parts], parts))
    return found


def choices_of(table, patterns):
    """For each of the patterns and those in them: pairs of a class where it may stand and the classes of its parts.

    That a hole is to be at one class wherever it stands is not looked at here.
    """
    _, rows, many = table
    lists = by_heads(rows)
    choices = {}
    places = {}  # the classes in the choices
    # What is within another one comes behind it, and is to be told ahead of it.
    for pattern in reversed([part for whole in patterns for part in all_within(whole)]):
        if isinstance(pattern, str):
            choices[pattern] = [(place, ()) for place in range(many)]
        else:
            inner = pattern[1:]
            choices[pattern] = [(place, ats) for place, ats in lists.get((pattern[0], len(inner)), [])
                                if all([at in places[part] for at, part in zip(ats, inner)])]
        places[pattern] = {place: True for place, _ in choices[pattern]}
    return choices


def bound(known, pattern, choice):
    """The known classes of patterns with those by this choice for the pattern, or None where they don't agree."""
    place, ats = choice
    more = {part: known[part] for part in known}
    if more.setdefault(pattern, place) != place:
        return None
    for at, part in zip(ats, pattern[1:]):
        if more.setdefault(part, at) != at:
            return None
    return more


def standings(web, patterns):
    """For each filling by which all the patterns stand: the classes of the patterns and of all in them.

    None comes twice: by a filling a pattern stands at one class at most, since like parts under one head are alike.
    """
    choices = choices_of(table_of(web), patterns)
    # Holes that stand alone come last: what stands around the same holes elsewhere leaves fewer choices for them.
    due = [part for part in all_in(patterns) if isinstance(part, tuple)]
    due.extend([pattern for pattern in patterns if isinstance(pattern, str)])
    found = []
    open_ones = [({}, 0)]
    while open_ones:
        known, at = open_ones.pop()
        if at == len(due):
            found.append(known)
            if len(found) > MOST_FOUND:
                raise TooMany("there are more fillings than may be told")
        else:
            more = [bound(known, due[at], choice) for choice in choices[due[at]]]
            open_ones.extend([(one, at + 1) for one in more if one is not None])
    return found


def least_ones(web):
    """The least terms of the classes, in order."""
    return [row[0] for row in web.classes()]


def filling_of(holes, terms):
    """The filling that gives the holes these terms."""
    return tuple([(hole, term) for hole, term in zip(holes, terms)])


def matches(web, pattern):
    """All pairs of a term and a filling such that the pattern stands by it at the class of which the term is least."""
    refuse_no_pattern(pattern)
    holes = holes_in([pattern])
    # The classes are numbered in the order of their least terms.
    found = sorted([[known[part] for part in [pattern] + holes] for known in standings(web, [pattern])])
    leasts = least_ones(web)
    return [(leasts[row[0]], filling_of(holes, [leasts[at] for at in row[1:]])) for row in found]


def stands_at(web, pattern, term, fill):
    """Whether the pattern stands at the term's class with its holes at those of the fill's terms."""
    refuse_no_pattern(pattern)
    refuse_no_term(term)
    holes = holes_of(pattern)
    refuse_no_fill(holes, fill)
    leasts = least_ones(web)
    wanted = [web.least(one) for one in [term] + [fill[hole] for hole in holes]]
    if None in wanted:
        return False
    worths = {hole: leasts.index(one) for hole, one in zip(holes, wanted[1:])}
    return worth(table_of(web), pattern, worths) == leasts.index(wanted[0])


def joint(web, patterns):
    """All fillings of all holes of the patterns by which each of them stands at some class."""
    refuse_no_patterns(patterns)
    holes = holes_in(patterns)
    found = sorted([[known[hole] for hole in holes] for known in standings(web, patterns)])
    leasts = least_ones(web)
    return [filling_of(holes, [leasts[at] for at in row]) for row in found]
