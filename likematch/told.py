"""What is told: the words of the desk's rows, and answers of a web to them."""

from likematch.clashes import clash
from likematch.matches import matches
from likematch.papers import paper_of, tellings
from likematch.terms import is_name
from likematch.texts import pattern_text

OK = "ok"
NONE = "none"
RULE = "rule"
DIFF = "diff"
ROUNDS = "rounds"
FIGURES = "0123456789"


def words_of(row):
    """The words of a row."""
    return [word for word in row.split(" ") if word != ""]


def put_told(web, term):
    """Put the term."""
    web.put(term)
    return OK


def like_told(web, one, other):
    """Tell that the two are alike."""
    return str(web.like(one, other))


def unlike_told(web, one, other):
    """Tell that the two are unlike."""
    return str(web.unlike(one, other))


def alike_told(web, one, other):
    """Whether the two are alike."""
    return "yes" if web.alike(one, other) else "no"


def least_told(web, term):
    """The least one that is alike to the term."""
    least = web.least(term)
    return NONE if least is None else pattern_text(least)


def classes_told(web):
    """The classes."""
    rows = ["=".join([pattern_text(term) for term in row]) for row in web.classes()]
    return " ".join(rows) if rows else NONE


def match_told(term, filling):
    """One of the matches."""
    pairs = ",".join([f"{hole}={pattern_text(one)}" for hole, one in filling])
    return f"{pattern_text(term)}:{pairs}" if filling else pattern_text(term)


def matches_told(web, pattern):
    """All matches of the pattern."""
    found = [match_told(term, filling) for term, filling in matches(web, pattern)]
    return "; ".join(found) if found else NONE


def why_told(web, one, other):
    """Tellings by which the two are alike."""
    numbers = tellings(paper_of(web, one, other))
    return " ".join([str(number) for number in numbers]) if numbers else "-"


def clash_told(web):
    """The number of the first clash."""
    found = clash(web)
    return NONE if found is None else str(found[0])


def back_told(web):
    """Take the last deed back."""
    web.back()
    return OK


def again_told(web):
    """Do again what was taken back last."""
    web.again()
    return OK


# What answers a row of this first word, handed the web and the patterns behind that word.
TELLERS = {
    "put": put_told, "like": like_told, "unlike": unlike_told, "alike": alike_told, "least": least_told,
    "classes": classes_told, "match": matches_told, "why": why_told, "clash": clash_told, "back": back_told,
    "again": again_told,
}
# How many patterns there are behind it.
MANY = {
    "put": 1, "like": 2, "unlike": 2, "alike": 2, "least": 1, "classes": 0, "match": 1, "why": 2, "clash": 0, "back": 0,
    "again": 0,
}


def is_figure(word):
    """Whether the word is one figure."""
    return len(word) == 1 and word in FIGURES


def is_asked(words):
    """Whether these words are as many as a row has that begins so, with a name or a figure where it has one."""
    first, *rest = words
    if first in (RULE, DIFF):
        # Behind the name there are two patterns, or more pairs of them.
        return len(rest) >= 3 and len(rest) % 2 == 1 and is_name(rest[0])
    if first == ROUNDS:
        return len(rest) == 1 and is_figure(rest[0])
    return first in MANY and len(rest) == MANY[first]
