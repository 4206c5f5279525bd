"""The desk: rows of words about a web and rules, and what is answered to them."""

from likematch.errors import MatchError
from likematch.rounds import Rounds
from likematch.rules import Rule
from likematch.texts import read_pattern
from likematch.told import DIFF, OK, ROUNDS, RULE, TELLERS, is_asked, words_of
from likematch.webs import Web


class Desk:
    """A web and some rules, which rows tell and ask of."""

    def __init__(self):
        self.web = Web()
        self.ruling = []

    def answer(self, row):
        """The answer to a row."""
        words = words_of(row)
        if len(words) == 0:
            return ""
        if not is_asked(words):
            return "what"
        try:
            return self._answer_to(words)
        except MatchError as refusal:
            return f"refused {refusal.word}"

    def _answer_to(self, words):
        """The answer to words that are a row."""
        first = words[0]
        if first == ROUNDS:
            return self._run(int(words[1]))
        if first in (RULE, DIFF):
            patterns = [read_pattern(word) for word in words[2:]]
            return self._keep(words[1], patterns, first == DIFF)
        tell = TELLERS[first]
        patterns = [read_pattern(word) for word in words[1:]]
        return tell(self.web, *patterns)

    def _keep(self, name, patterns, apart):
        """Keep a rule, in the place of one of its name if there is one."""
        pairs = list(zip(patterns[2::2], patterns[3::2]))
        rule = Rule(name, patterns[0], patterns[1], when=pairs, apart=apart)
        names = [other.name for other in self.ruling]
        if name in names:
            self.ruling[names.index(name)] = rule
        else:
            self.ruling.append(rule)
        return OK

    def _run(self, most):
        """Run at most so many rounds."""
        rounds = Rounds(self.web, self.ruling)
        many = rounds.run(most)
        self.web = rounds.reached()
        return str(many)


def answers(text):
    """A new desk's answers to the rows of a text."""
    desk = Desk()
    return [desk.answer(row) for row in text.split("\n")]
