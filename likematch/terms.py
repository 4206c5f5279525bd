"""Terms and patterns: what they are, how great they are, how they are ordered and filled."""

from likematch.errors import BadPattern, BadTerm, NoHole, TooGreat

LETTERS = "abcdefghijklmnopqrstuvwxyz"
MOST_NAME = 8
MOST_HOLE = 4
MOST_PARTS = 3
MOST_SIZE = 30
MOST_DEEP = 5


def is_number(thing):
    """Whether thing is a number, which True and False are not."""
    return isinstance(thing, int) and not isinstance(thing, bool)


def is_below(thing, many):
    """Whether thing is a number from 0 on that is below many."""
    return is_number(thing) and 0 <= thing < many


def is_word(thing, most):
    """Whether thing is a text of 1 to so many small letters."""
    if not isinstance(thing, str) or not 1 <= len(thing) <= most:
        return False
    return all([sign in LETTERS for sign in thing])


def is_name(thing):
    """Whether thing is a name."""
    return is_word(thing, MOST_NAME)


def is_hole(thing):
    """Whether thing is a hole."""
    return isinstance(thing, str) and thing[:1] == "?" and is_word(thing[1:], MOST_HOLE)


def size_within(thing, holes, deep):
    """The size of thing; 0 where it is no pattern, is deeper than deep, or has holes that may not be."""
    # The depth bounds the walk, so that a thing of any depth, or one that shares its parts, is told soon.
    if deep == 0:
        return 0
    if is_hole(thing):
        return 1 if holes else 0
    if not isinstance(thing, tuple) or not 1 <= len(thing) <= 1 + MOST_PARTS or not is_name(thing[0]):
        return 0
    size = 1
    for part in thing[1:]:
        more = size_within(part, holes, deep - 1)
        if more == 0:
            return 0
        size += more
    return size


def is_term(thing):
    """Whether thing is a term within the bounds."""
    return 1 <= size_within(thing, False, MOST_DEEP) <= MOST_SIZE


def is_pattern(thing):
    """Whether thing is a pattern within the bounds."""
    return 1 <= size_within(thing, True, MOST_DEEP) <= MOST_SIZE


def is_pair(thing):
    """Whether thing is a pair of terms within the bounds."""
    return isinstance(thing, tuple) and len(thing) == 2 and is_term(thing[0]) and is_term(thing[1])


def refuse_no_term(thing):
    """Refuse what is no term."""
    if not is_term(thing):
        raise BadTerm("this is no term")


def refuse_no_pattern(thing):
    """Refuse what is no pattern."""
    if not is_pattern(thing):
        raise BadPattern("this is no pattern")


def size_of(pattern):
    """How many tuples and holes are in the pattern."""
    refuse_no_pattern(pattern)
    return size_within(pattern, True, MOST_DEEP)


def depth(pattern):
    """How deep a pattern is that is surely one."""
    if isinstance(pattern, str) or len(pattern) == 1:
        return 1
    return 1 + max([depth(part) for part in pattern[1:]])


def deep_of(pattern):
    """How deep the pattern is."""
    refuse_no_pattern(pattern)
    return depth(pattern)


def all_within(pattern):
    """The pattern and all patterns in it, as often as they stand there, from left to right."""
    found = [pattern]
    if isinstance(pattern, tuple):
        for part in pattern[1:]:
            found.extend(all_within(part))
    return found


def holes_of(pattern):
    """The holes of the pattern, each once, as they first stand."""
    refuse_no_pattern(pattern)
    return list({part: True for part in all_within(pattern) if isinstance(part, str)})


def exchanged(pattern, fill):
    """The pattern with each hole exchanged for what fill gives it."""
    if isinstance(pattern, str):
        return fill[pattern]
    return (pattern[0],) + tuple([exchanged(part, fill) for part in pattern[1:]])


def refuse_no_fill(holes, fill):
    """Refuse a fill that lacks one of the holes, or that gives one of them what is no term."""
    for hole in holes:
        if hole not in fill:
            raise NoHole(hole)
    for hole in holes:
        refuse_no_term(fill[hole])


def filled(pattern, fill):
    """The term that the pattern is with the fill's terms in its holes."""
    refuse_no_fill(holes_of(pattern), fill)
    term = exchanged(pattern, fill)
    if not is_term(term):
        raise TooGreat("this is greater or deeper than a term may be")
    return term


def written(pattern):
    """The text of a pattern that is surely one."""
    if isinstance(pattern, str):
        return pattern
    if len(pattern) == 1:
        return pattern[0]
    parts = ",".join([written(part) for part in pattern[1:]])
    return f"{pattern[0]}({parts})"


def order_of(pattern):
    """That by which patterns are ordered, of one that is surely a pattern."""
    return size_within(pattern, True, MOST_DEEP), written(pattern)


def lesser(one, other):
    """Whether the one pattern comes ahead of the other."""
    refuse_no_pattern(one)
    refuse_no_pattern(other)
    return order_of(one) < order_of(other)
