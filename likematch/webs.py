"""The web: the terms that were put into it, and what was told of them."""

from likematch.errors import NoDeed, NoLog, TooMany
from likematch.terms import all_within, order_of, refuse_no_term

MOST_TERMS = 60
MOST_TELLINGS = 40
MOST_ROWS = 100
PUT = "put"
LIKE = "like"
UNLIKE = "unlike"
LENGTHS = {"put": 2, "like": 3, "unlike": 3}


def is_row(thing):
    """Whether thing is a row of a log by its word and length."""
    if not isinstance(thing, tuple) or len(thing) == 0 or not isinstance(thing[0], str):
        return False
    return LENGTHS.get(thing[0], 0) == len(thing)


def refuse_no_log(deeds):
    """Refuse what is no list of at most so many rows."""
    if not isinstance(deeds, (list, tuple)):
        raise NoLog(0)
    for at, row in enumerate(deeds[:MOST_ROWS]):
        if not is_row(row):
            raise NoLog(at)
    if len(deeds) > MOST_ROWS:
        raise NoLog(MOST_ROWS)


def joined(lows, one, other):
    """The lows behind it that the classes of these two places are one."""
    low = min(lows[one], lows[other])
    high = max(lows[one], lows[other])
    return [low if place == high else place for place in lows]


def alike_by_parts(rows, lows):
    """Pairs of places of rows that have one head and like parts, and aren't joined yet."""
    first = {}
    found = []
    for at, (head, parts) in enumerate(rows):
        shape = (head,) + tuple([lows[part] for part in parts])
        mate = first.setdefault(shape, at)
        if lows[mate] != lows[at]:
            found.append((mate, at))
    return found


class Likeness:
    """The least relation of all terms by which pairs of some of them are alike.

    These terms are handed in with all terms in them. What is not among them is alike by its parts alone.
    """

    def __init__(self, terms, pairs):
        self.places = {term: at for at, term in enumerate(terms)}
        self.rows = [(term[0], [self.places[part] for part in term[1:]]) for term in terms]
        self.lows = list(range(len(terms)))  # for each term the place of the first one that is alike to it
        self.shapes = {}  # from a head with its parts' marks to the low of all such terms
        self.due = []  # pairs of places that are to be joined
        for one, other in pairs:
            self.tell(one, other)
        self._settle()

    def tell(self, one, other):
        """From now on, these two are alike, too."""
        self.due.append((self.places[one], self.places[other]))

    def alike(self, one, other):
        """Whether the two are alike."""
        return self.mark(one) == self.mark(other)

    def mark(self, term):
        """What is equal of like terms alone: the low of the term's class, or its shape where it has none."""
        if self.due:
            self._settle()
        shape = (term[0],) + tuple([self.mark(part) for part in term[1:]])
        return self.shapes.get(shape, shape)

    def _settle(self):
        """Join all that is due, and what comes to be alike by that."""
        while self.due:
            for one, other in self.due:
                self.lows = joined(self.lows, one, other)
            self.due = alike_by_parts(self.rows, self.lows)
        self.shapes = {}
        for (head, parts), low in zip(self.rows, self.lows):
            self.shapes[(head,) + tuple([self.lows[part] for part in parts])] = low


class Web:
    """Terms, and tellings that some are alike and some unlike."""

    def __init__(self):
        self.deeds = []  # the rows of the deeds that stand
        self.undone = []  # the rows of those that were taken back, the last one last
        self.tellings = []  # the rows among deeds that have numbers
        self.ranks = {}  # that by which they are ordered, of the terms that stand
        self.rising = []  # these terms in their order
        self.likeness = Likeness([], [])  # of these terms; another one as they come, so that twins may share it

    def put(self, term):
        """Put the term and all terms in it into the web."""
        return self._new_deed((PUT, term))

    def like(self, one, other):
        """Tell that the two are alike; the telling's number."""
        return self._new_deed((LIKE, one, other))

    def unlike(self, one, other):
        """Tell that the two are unlike; the telling's number."""
        return self._new_deed((UNLIKE, one, other))

    def alike(self, one, other):
        """Whether the two are alike, standing here or not."""
        refuse_no_term(one)
        refuse_no_term(other)
        return self.likeness.alike(one, other)

    def classes(self):
        """The classes, each from its least term up, by their least ones."""
        rows = {}
        for term, low in zip(self.rising, self.likeness.lows):
            rows.setdefault(low, []).append(term)
        return list(rows.values())

    def least(self, term):
        """The least term here that is alike to this one, or None."""
        refuse_no_term(term)
        mark = self.likeness.mark(term)
        return self.rising[mark] if isinstance(mark, int) else None

    def terms(self):
        """All terms that stand here, from the least one up."""
        return list(self.rising)

    def __len__(self):
        return len(self.ranks)

    def told(self):
        """The pairs told to be alike, by their numbers."""
        return self._numbered(LIKE)

    def parted(self):
        """The pairs told to be unlike, by their numbers."""
        return self._numbered(UNLIKE)

    def back(self):
        """Take back the last deed that stands."""
        if len(self.deeds) == 0:
            raise NoDeed("there is no deed to be taken back")
        self.undone.append(self.deeds.pop())
        self.tellings = [row for row in self.deeds if row[0] != PUT]
        self.ranks = self._ranks_beyond({}, self.deeds)
        self._settle()

    def again(self):
        """Do again the deed that was taken back last."""
        if len(self.undone) == 0:
            raise NoDeed("there is no deed to be done again")
        self._do(self.undone.pop())

    def log(self):
        """The rows of the deeds that stand."""
        return list(self.deeds)

    def twin(self):
        """Another web that tells all alike."""
        other = Web()
        other._take(self)
        return other

    def all_done(self, deeds):
        """Do these rows one by one, or none of them; what each gives."""
        refuse_no_log(deeds)
        # A twin does them, so that this web is as ahead of all where one is refused.
        other = self.twin()
        given = [other._new_deed(row) for row in deeds]
        self._take(other)
        return given

    def _new_deed(self, row):
        """Do a row; behind it, nothing that was taken back can be done again."""
        given = self._do(row)
        self.undone = []
        return given

    def _do(self, row):
        """Do a row: its telling's number, or None of a put."""
        for term in row[1:]:
            refuse_no_term(term)
        fresh = self._ranks_beyond(self.ranks, [row])
        is_telling = row[0] != PUT
        if len(self.ranks) + len(fresh) > MOST_TERMS:
            raise TooMany("more terms would stand in the web than may")
        if is_telling and len(self.tellings) >= MOST_TELLINGS:
            raise TooMany("more would be told than may be")
        self.deeds.append(row)
        for term in fresh:
            self.ranks[term] = fresh[term]
        if is_telling:
            self.tellings.append(row)
        if fresh or row[0] == LIKE:
            self._settle()
        return len(self.tellings) if is_telling else None

    def _ranks_beyond(self, known, rows):
        """The terms that the rows put and known lacks, each with that by which it is ordered."""
        found = {}
        for row in rows:
            for term in row[1:]:
                # What stands has all that is in it standing, too.
                if term not in known and term not in found:
                    for part in all_within(term):
                        if part not in known:
                            found[part] = order_of(part)
        return found

    def _settle(self):
        """Find anew which of the terms that stand are alike."""
        self.rising = sorted(self.ranks, key=lambda term: self.ranks[term])
        self.likeness = Likeness(self.rising, list(self.told().values()))

    def _numbered(self, word):
        """The pairs of the tellings of this word, by their numbers."""
        return {at: (row[1], row[2]) for at, row in enumerate(self.tellings, start=1) if row[0] == word}

    def _take(self, other):
        """Be as the other web is."""
        self.deeds = list(other.deeds)
        self.undone = list(other.undone)
        self.tellings = list(other.tellings)
        self.ranks = {term: other.ranks[term] for term in other.ranks}
        self.rising = list(other.rising)
        self.likeness = other.likeness
