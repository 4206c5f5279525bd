"""Finders: which fillings are new in a web, and which are gone."""

from likematch.matches import joint, refuse_no_patterns


def as_now(web, filling):
    """The filling as joint would tell a like one now: None stands for a term that has no class."""
    return tuple([(hole, web.least(term)) for hole, term in filling])


class Finder:
    """What it told of the fillings of some patterns in a web."""

    def __init__(self, web, patterns):
        refuse_no_patterns(patterns)
        self.web = web
        self.patterns = list(patterns)
        self.fillings = []  # those it told, as they were told

    def new(self):
        """The fillings now that aren't like one told before."""
        present = joint(self.web, self.patterns)
        before = {as_now(self.web, filling): True for filling in self.fillings}
        found = [filling for filling in present if filling not in before]
        self.fillings.extend(found)
        return found

    def told(self):
        """All fillings told so far."""
        return list(self.fillings)

    def gone(self):
        """Those told that are like no filling now."""
        present = {filling: True for filling in joint(self.web, self.patterns)}
        return [filling for filling in self.fillings if as_now(self.web, filling) not in present]

    def forget(self):
        """Be as if nothing was told so far."""
        self.fillings = []
