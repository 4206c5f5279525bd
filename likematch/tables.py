"""Tables: what terms are worth in them, and one in which just the like terms of a web are worth the same."""

from likematch.errors import BadTable, BadTerms
from likematch.terms import MOST_PARTS, is_below, is_name, is_number, is_pair, is_term, refuse_no_term

MOST_WORTHS = 100
MOST_MORE = 4


def is_key(thing, size):
    """Whether thing is a pair of a head and of none to three elements of a table of this size."""
    if not isinstance(thing, tuple) or len(thing) != 2 or not is_name(thing[0]):
        return False
    if not isinstance(thing[1], tuple) or len(thing[1]) > MOST_PARTS:
        return False
    return all([is_below(part, size) for part in thing[1]])


def is_table(thing):
    """Whether thing is a table."""
    if not isinstance(thing, tuple) or len(thing) != 3:
        return False
    size, rows, rest = thing
    if not is_number(size) or not 1 <= size <= MOST_WORTHS:
        return False
    if not isinstance(rows, dict) or not is_below(rest, size):
        return False
    return all([is_key(key, size) and is_below(rows[key], size) for key in rows])


def refuse_no_table(thing):
    """Refuse what is no table."""
    if not is_table(thing):
        raise BadTable("this is no table")


def worth(table, pattern, worths):
    """What a pattern is worth in a table, surely such ones, by what its holes are worth."""
    if isinstance(pattern, str):
        return worths[pattern]
    _, rows, rest = table
    key = (pattern[0], tuple([worth(table, part, worths) for part in pattern[1:]]))
    return rows.get(key, rest)


def value(table, term):
    """The element of the table that the term is worth."""
    refuse_no_table(table)
    refuse_no_term(term)
    return worth(table, term, {})


def keeps(table, pairs):
    """Whether the terms of each pair are worth the same."""
    refuse_no_table(table)
    if not isinstance(pairs, (list, tuple)) or not all([is_pair(pair) for pair in pairs]):
        raise BadTerms("this is no list of pairs of terms")
    return all([worth(table, one, {}) == worth(table, other, {}) for one, other in pairs])


def refuse_no_more(thing):
    """Refuse what is no list of terms that may come beside those of a web."""
    if not isinstance(thing, (list, tuple)) or len(thing) > MOST_MORE:
        raise BadTerms("this is no list of so few terms")
    if not all([is_term(term) for term in thing]):
        raise BadTerms("this is no list of terms")


def table_of(web, *, more=()):
    """The table whose elements are the classes, with more put, and a last one, which is the rest."""
    refuse_no_more(more)
    other = web.twin()
    for term in more:
        other.put(term)
    classes = other.classes()
    places = {term: at for at, row in enumerate(classes) for term in row}
    rows = {}
    for term in other.terms():
        rows[term[0], tuple([places[part] for part in term[1:]])] = places[term]
    return (len(classes) + 1, rows, len(classes))
