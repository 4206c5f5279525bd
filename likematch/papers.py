"""Papers: rows that show why two terms are alike, the judge that walks them, and one that writes them."""

from likematch.errors import NotAlike
from likematch.terms import MOST_PARTS, all_within, is_below, is_number, is_pair, is_term
from likematch.webs import Likeness

MOST_PAPER = 20000
SAME = "same"
TOLD = "told"
BACK = "back"
THEN = "then"
PARTS = "parts"
ROW_LENGTHS = {"same": 2, "told": 2, "back": 2, "then": 3, "parts": 3}


def is_paper_row(thing):
    """Whether thing is a row of a paper by its word and length."""
    if not isinstance(thing, tuple) or len(thing) == 0 or not isinstance(thing[0], str):
        return False
    return ROW_LENGTHS.get(thing[0], 0) == len(thing)


def pair_if_one(pair):
    """The pair, or None where it is no pair of terms."""
    return pair if is_pair(pair) else None


def same_pair(term):
    """The pair of the term with itself, or None where it is no term."""
    return (term, term) if is_term(term) else None


def told_pair(told, number):
    """The pair of this telling, or None where there is none."""
    if not is_number(number) or number not in told:
        return None
    return pair_if_one(told[number])


def back_pair(pairs, at):
    """The pair at this place turned about, or None where there is none."""
    if not is_below(at, len(pairs)):
        return None
    one, other = pairs[at]
    return (other, one)


def then_pair(pairs, at, place):
    """The pair that these two places lead to through a third term, or None where they do not."""
    if not is_below(at, len(pairs)) or not is_below(place, len(pairs)):
        return None
    one, middle = pairs[at]
    begin, other = pairs[place]
    return (one, other) if middle == begin else None


def parts_pair(pairs, head, ats):
    """The pair of the terms of this head with the parts from these places, or None where there is none."""
    if not isinstance(ats, tuple) or not 1 <= len(ats) <= MOST_PARTS:
        return None
    if not all([is_below(at, len(pairs)) for at in ats]):
        return None
    one = (head,) + tuple([pairs[at][0] for at in ats])
    other = (head,) + tuple([pairs[at][1] for at in ats])
    # With a head that is no name, or beyond the bounds, these are no terms.
    return pair_if_one((one, other))


def row_pair(told, pairs, row):
    """The pair that the row tells behind rows that tell these pairs, or None where it tells none."""
    if not is_paper_row(row):
        return None
    if row[0] == SAME:
        return same_pair(row[1])
    if row[0] == TOLD:
        return told_pair(told, row[1])
    if row[0] == BACK:
        return back_pair(pairs, row[1])
    if row[0] == THEN:
        return then_pair(pairs, row[1], row[2])
    return parts_pair(pairs, row[1], row[2])


def says(told, paper):
    """The pair that the paper tells by these tellings, or None where it is no paper."""
    if not isinstance(paper, (list, tuple)) or not 1 <= len(paper) <= MOST_PAPER:
        return None
    pairs = []
    for row in paper:
        pair = row_pair(told, pairs, row)
        if pair is None:
            return None
        pairs.append(pair)
    return pairs[-1]


def tellings(paper):
    """The rising numbers that the paper names, each once."""
    return sorted({row[1] for row in paper if row[0] == TOLD})


def terms_of(pairs):
    """The terms of the pairs and all terms in them, each once."""
    return list({part: True for pair in pairs for term in pair for part in all_within(term)})


def any_alike(pairs, asked):
    """Whether one of the pairs that are asked for is alike by the other pairs."""
    likeness = Likeness(terms_of(pairs), pairs)
    return any([likeness.alike(one, other) for one, other in asked])


def needed_ones(told, one, other):
    """Such of the tellings, by which the two are alike, that none of them can be left out."""
    kept = told
    for number in sorted(told, reverse=True):
        fewer = {at: kept[at] for at in kept if at != number}
        # One that is needed here is needed at the end, too, where still fewer stand beside it.
        if any_alike(list(fewer.values()), [(one, other)]):
            kept = fewer
    return kept


def places_in(row):
    """The places that the row names."""
    if row[0] == PARTS:
        return list(row[2])
    return list(row[1:]) if row[0] in (BACK, THEN) else []


def moved(row, places):
    """The row with the new places of those that it names."""
    if row[0] == PARTS:
        return (PARTS, row[1], tuple([places[at] for at in row[2]]))
    if row[0] in (BACK, THEN):
        return (row[0],) + tuple([places[at] for at in row[1:]])
    return row


class Book:
    """A row for each pair of these terms that is alike by what was bound so far.

    A paper from it is within its bounds, since no pair has two rows, and since no more terms come together
    than may stand in a web and in two terms more.
    """

    def __init__(self, terms):
        self.rows = []
        self.places = {}  # from the pairs to the places of their rows
        self.mates = {}  # from the terms to all terms that are alike to them so far
        for term in terms:
            self.mates[term] = [term]
            self._write(term, term, (SAME, term))

    def bind(self, one, other, row):
        """Write the row, which tells this pair, and rows for all pairs that come to be alike by it."""
        ones = self.mates[one]
        others = self.mates[other]
        if one in others:
            return
        self._write(one, other, row)
        for near in ones:
            if near != one:
                self._write_through(near, one, other)
            for far in others:
                if far != other:
                    self._write_through(near, other, far)
                self._write(far, near, (BACK, self.places[near, far]))
        united = ones + others
        for term in united:
            self.mates[term] = united

    def bind_like_parts(self):
        """Bind all terms that have one head and like parts."""
        many = 0
        while many < len(self.rows):
            many = len(self.rows)
            first = {}
            for term in list(self.mates):
                shape = (term[0],) + tuple([self.mates[part][0] for part in term[1:]])
                mate = first.setdefault(shape, term)
                ats = tuple([self.places[pair] for pair in zip(mate[1:], term[1:])])
                self.bind(mate, term, (PARTS, term[0], ats))

    def paper(self, one, other):
        """The row for this pair behind all rows that it needs."""
        last = self.places[one, other]
        needed = {last: True}
        for at in reversed(range(last + 1)):
            if at in needed:
                for place in places_in(self.rows[at]):
                    needed[place] = True
        places = {at: place for place, at in enumerate(sorted(needed))}
        return [moved(self.rows[at], places) for at in places]

    def _write(self, one, other, row):
        """Write a row that tells this pair."""
        self.places[one, other] = len(self.rows)
        self.rows.append(row)

    def _write_through(self, one, middle, other):
        """Write a row for this pair, whose terms are alike to the middle one."""
        self._write(one, other, (THEN, self.places[one, middle], self.places[middle, other]))


def paper_by(told, one, other):
    """A paper of these two, which are alike by the tellings."""
    book = Book(terms_of(list(told.values()) + [(one, other)]))
    for number in told:
        near, far = told[number]
        book.bind(near, far, (TOLD, number))
    book.bind_like_parts()
    return book.paper(one, other)


def paper_of(web, one, other):
    """A paper of these two by what was told to the web."""
    if not web.alike(one, other):
        raise NotAlike("these two are not alike")
    return paper_by(needed_ones(web.told(), one, other), one, other)
