"""What several tests need: things of any kind, terms, and likeness found the slow way."""

import copy
import itertools
import random

from likematch.errors import NoCover, NoDeed
from likematch.rules import Rule
from likematch.texts import read_pattern
from likematch.webs import Web

A = ("a",)
B = ("b",)
C = ("c",)
D = ("d",)

# None of these is a term or a pattern, a list of rows or a text of a pattern.
NO_PATTERNS = (
    None, True, False, 0, 1, -1, "", "a", "f(a)", "?", "x?", "?X", "?x1", "? x", "?x ", " ?x", "?abcde", "??x", "?\n",
    [], ["a"], ["f", ("a",)], {}, {"a": 1}, {"?x": ("a",)}, (), (1,), (None,), (True,), ("",), ("A",), ("a1",), ("a ",),
    ("a\n",), ("abcdefghi",), (("a",),), (["a"],), ({},), ("?x",), ("f", "a"), ("f", ""), ("f", ()), ("f", ["a"]),
    ("f", [("a",)]), ("f", None), ("f", 1), ("f", True), ("f", ("a",), "b"), ("f", ("g", ("a", 1))), ("f", "?abcde"),
    ("f", ("a",), ("a",), ("a",), ("a",)), ("f", "?x", "?x", "?x", "?x"), ("f", {}), ("f", ("A",)),
)


def chain(deep, last=A, head="f"):
    """A term of one part in another, so deep in all where last is 1 deep."""
    term = last
    for _ in range(deep - 1):
        term = (head, term)
    return term


def numbered(number):
    """A term without parts, another one for each number."""
    return ("t" + "abcdefghij"[number // 10] + "abcdefghij"[number % 10],)


def wide(size):
    """A term of this size, from 2 to 31, that is at most 4 deep."""
    left = size - 1
    parts = []
    while left:
        take = min(left, 10)
        inner = ["g"]
        rest = take - 1
        while rest:
            some = min(rest, 3)
            inner.append(("h",) + (A,) * (some - 1))
            rest -= some
        parts.append(tuple(inner))
        left -= take
    return ("f",) + tuple(parts)


def count(thing):
    """The size, told plainly."""
    return 1 if isinstance(thing, str) else 1 + sum(count(part) for part in thing[1:])


def text_of(thing):
    """The text, told plainly."""
    if isinstance(thing, str):
        return thing
    return thing[0] + ("(" + ",".join(text_of(part) for part in thing[1:]) + ")" if len(thing) > 1 else "")


def rank(thing):
    return (count(thing), text_of(thing))


def inner_terms(term, found=None):
    """All terms in the term, itself too."""
    found = set() if found is None else found
    found.add(term)
    for part in term[1:]:
        inner_terms(part, found)
    return found


def slow_likeness(terms, pairs):
    """The least relation, as a set of pairs, over these terms and all terms in them and in the pairs."""
    world = set()
    for term in list(terms) + [term for pair in pairs for term in pair]:
        inner_terms(term, world)
    alike = {(term, term) for term in world} | set(pairs)
    while True:
        more = {(other, one) for one, other in alike}
        seconds = {}
        for one, other in alike:
            seconds.setdefault(one, []).append(other)
        more |= {(one, third) for one, other in alike for third in seconds[other]}
        for one in world:
            for other in world:
                if one[0] == other[0] and len(one) == len(other):
                    if all(pair in alike for pair in zip(one[1:], other[1:])):
                        more.add((one, other))
        if more <= alike:
            return alike
        alike |= more


def walked(told, paper):
    """The pair of a paper, walked plainly; an AssertionError where it is none."""
    assert isinstance(paper, list) and 1 <= len(paper) <= 20000
    pairs = []
    for row in paper:
        assert isinstance(row, tuple)
        word, *rest = row
        if word == "same":
            term, = rest
            pair = (term, term)
        elif word == "told":
            number, = rest
            pair = told[number]
        else:
            head = rest.pop(0) if word == "parts" else None
            ats = rest[0] if word == "parts" else rest
            assert all(type(at) is int and 0 <= at < len(pairs) for at in ats)
            if word == "back":
                at, = ats
                pair = pairs[at][::-1]
            elif word == "then":
                at, place = ats
                assert pairs[at][1] == pairs[place][0]
                pair = (pairs[at][0], pairs[place][1])
            else:
                assert word == "parts" and len(rest) == 1 and type(ats) is tuple and 1 <= len(ats) <= 3
                pair = tuple((head,) + tuple(pairs[at][side] for at in ats) for side in (0, 1))
        assert all(count(term) <= 30 and deep(term) <= 5 for term in pair)
        pairs.append(pair)
    return pairs[-1]


def deep(thing):
    """How deep it is, told plainly."""
    return 1 + max((deep(part) for part in thing[1:]), default=0)


def some_rows(chance, many):
    """So many rows of a log, most of them likenesses."""
    rows = []
    for _ in range(many):
        word = chance.choice(("put", "like", "like", "like", "unlike"))
        rows.append((word, some_term(chance)) + (() if word == "put" else (some_term(chance),)))
    return rows


def some_term(chance, deep=3):
    """A small term, another one each time."""
    parts = chance.choice((0, 0, 1, 1, 2)) if deep > 1 else 0
    if parts == 0:
        return (chance.choice("abcd"),)
    return (chance.choice("fg"),) + tuple(some_term(chance, deep - 1) for _ in range(parts))


def some_pattern(chance, deep=3):
    """A small pattern, another one each time."""
    if chance.random() < 0.3:
        return chance.choice(("?x", "?y", "?long"))
    parts = chance.choice((0, 1, 2, 3)) if deep > 1 else 0
    return (chance.choice(("a", "f", "longname")),) + tuple(some_pattern(chance, deep - 1) for _ in range(parts))


def holes_told(patterns):
    """The holes of the patterns in the order in which they first stand, told plainly."""
    found = []
    for pattern in patterns:
        for hole in [pattern] if isinstance(pattern, str) else holes_told(pattern[1:]):
            if hole not in found:
                found.append(hole)
    return found


def stands_slowly(web, pattern, fill, row):
    """Whether the pattern stands at this class, holes at the classes that fill gives, by the words of the document."""
    if isinstance(pattern, str):
        return fill[pattern] == row
    classes = {term: other for other in web.classes() for term in other}
    return any(term[0] == pattern[0] and len(term) == len(pattern)
               and all(stands_slowly(web, inner, fill, classes[part]) for inner, part in zip(pattern[1:], term[1:]))
               for term in row)


def slow_fills(web, patterns):
    """All ways to fill the holes of the patterns with classes, in order, as pairs of a dict and what is told of it."""
    holes = holes_told(patterns)
    for rows in itertools.product(web.classes(), repeat=len(holes)):
        yield dict(zip(holes, rows)), tuple((hole, row[0]) for hole, row in zip(holes, rows))


def slow_joint(web, patterns):
    return [told for fill, told in slow_fills(web, patterns)
            if all(any(stands_slowly(web, pattern, fill, row) for row in web.classes()) for pattern in patterns)]


def slow_matches(web, pattern):
    return [(row[0], told) for row in web.classes() for fill, told in slow_fills(web, [pattern])
            if stands_slowly(web, pattern, fill, row)]


def like_fillings(web, one, other):
    """Whether the two fillings are like in the web."""
    return [pair[0] for pair in one] == [pair[0] for pair in other] and all(
        web.alike(near[1], far[1]) for near, far in zip(one, other))


def web_behind(rows):
    """A new web behind these rows."""
    web = Web()
    web.all_done(rows)
    return web


def web_of_texts(*texts):
    """A web behind rows such as `a` (put), `a=b` (told alike) and `a!b` (told unlike)."""
    web = Web()
    for text in texts:
        if "=" in text:
            web.like(*map(read_pattern, text.split("=")))
        elif "!" in text:
            web.unlike(*map(read_pattern, text.split("!")))
        else:
            web.put(read_pattern(text))
    return web


def fillings_told(*texts):
    """Fillings from texts such as `?x=a ?y=f(a)`."""
    return [tuple(tuple(map(read_pattern, word.split("="))) for word in text.split()) for text in texts]


def matches_told(*texts):
    """Pairs from texts such as `f(a) ?x=a`."""
    return [(read_pattern(text.split()[0]), fillings_told(" ".join(text.split()[1:]))[0]) for text in texts]


def some_small_pattern(chance, deep=3, holes=("?x", "?y")):
    """A pattern over the heads of some_term, so that it often stands in a web of such terms."""
    if chance.random() < 0.45:
        return chance.choice(holes)
    parts = chance.choice((0, 1, 1, 2)) if deep > 1 else 0
    if parts == 0:
        return (chance.choice("abcd"),)
    return (chance.choice("fg"),) + tuple(some_small_pattern(chance, deep - 1, holes) for _ in range(parts))


def rule_of(name, text, *when, **more):
    """A rule of texts such as `f(?x)=?x`."""
    pairs = [tuple(map(read_pattern, row.split("="))) for row in (text,) + when]
    return Rule(name, *pairs[0], when=pairs[1:], **more)


def some_head(chance):
    """A tuple pattern that often stands in a web of some_rows."""
    return (chance.choice("fg"),) + tuple(chance.choice(("?x", "?y", A, ("g", "?x"))) for _ in range(chance.choice((1, 1, 2))))


def some_rule(chance, name):
    """A rule over the heads of some_term, or None where it is refused."""
    pick = [some_head(chance), chance.choice((some_head(chance), "?x", "?y", A, B)), some_head(chance),
            chance.choice(("?x", "?y", A, some_small_pattern(chance, 2)))]
    try:
        return Rule(name, pick[0], pick[1], when=[(pick[2], pick[3])] if chance.random() < 0.5 else [],
                    apart=chance.random() < 0.2)
    except NoCover:
        return None


def some_rules(chance):
    """None to three rules of unlike names."""
    rules = [some_rule(chance, "r" + "abc"[at]) for at in range(chance.randrange(1, 4))]
    return [rule for rule in rules if rule is not None]


LIVELY = ("f(?x)=?x", "f(?x)=g(?x)", "f(?x,?y)=f(?y,?x)", "g(?x)=?x", "?x=?y f(?x)=f(?y)", "?x=?y g(?x)=g(?y)",
          "?x=?y f(?x)=f(?y) ?x=?x", "g(?x)=?x f(?x)=a", "f(?x)=b g(?x)=?x", "f(?x)=g(?y) ?x=?y", "f(f(?x))=f(?x)",
          "f(?x,?y)=?x ?x=?y", "g(?x)=c f(?x)=f(a)", "a=b", "f(a)=g(b) c=d", "f(?x,?y)=?y ?x=a", "g(f(?x))=?x f(?x)=?x")


def lively_rules(chance, unlike=0):
    """One to four rules that often bring something into a web of some_rows, so many of them apart."""
    texts = chance.sample(LIVELY, chance.randrange(1, 5))
    return [rule_of("r" + "abcd"[at], *text.split(), apart=at < unlike) for at, text in enumerate(texts)]


def put_in(pattern, fill):
    """The filled pattern, told plainly."""
    if isinstance(pattern, str):
        return fill[pattern]
    return (pattern[0],) + tuple(put_in(part, fill) for part in pattern[1:])


def judged(told, rules, account):
    """The pair of an account, walked plainly; an AssertionError where it is none."""
    assert type(account) is tuple
    steps, paper = account
    assert type(steps) is list and len(steps) <= 40
    known = dict(told)
    for at, (name, filling, papers) in enumerate(steps):
        rule, = [rule for rule in rules if rule.name == name]
        assert not rule.apart
        assert type(filling) is tuple and [hole for hole, _ in filling] == holes_told(
            [rule.one, rule.other] + [pattern for pair in rule.when for pattern in pair])
        fill = dict(filling)
        assert type(papers) is list and len(papers) == len(rule.when)
        for one, (near, far) in zip(papers, rule.when):
            assert walked(known, one) == (put_in(near, fill), put_in(far, fill))
        known[1001 + at] = (put_in(rule.one, fill), put_in(rule.other, fill))
    return walked(known, paper)


def chances(seed):
    """The same run of choices each time."""
    return random.Random(seed)


def all_of(web):
    """All that a web tells without being asked of a term, as it is now."""
    return copy.deepcopy((web.log(), web.terms(), web.classes(), web.told(), web.parted(), len(web)))


def undone(web):
    """What a web's twin does again, one by one, and so what can be done again in the web."""
    other = web.twin()
    before = len(other.log())
    while True:
        try:
            other.again()
        except NoDeed:
            return other.log()[before:]


def whole(web):
    """All that a web tells, with what can be done again."""
    return all_of(web) + (undone(web),)
