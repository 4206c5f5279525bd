"""Patterns as texts, written and read."""

from likematch.errors import NoText
from likematch.terms import LETTERS, MOST_HOLE, MOST_NAME, MOST_PARTS, is_pattern, refuse_no_pattern, written


def pattern_text(pattern):
    """The text of the pattern, without blanks."""
    refuse_no_pattern(pattern)
    return written(pattern)


def behind_blanks(text, at):
    """The place of the first sign from at on that is no blank, or how many signs there are."""
    while at < len(text) and text[at] == " ":
        at += 1
    return at


def word_at(text, at):
    """The name or hole that begins at this place, as far as one can be."""
    begin, most = (at + 1, MOST_HOLE) if text[at:at + 1] == "?" else (at, MOST_NAME)
    end = begin
    while end < len(text) and end < begin + most and text[end] in LETTERS:
        end += 1
    if end == begin:
        raise NoText(end)
    return text[at:end]


def closed(text, at, rows, whole):
    """Close rows as long as brackets are closed from at on: the place behind, and the last that is whole."""
    while rows and text[at:at + 1] == ")":
        whole = tuple(rows.pop()) + (whole,)
        at = behind_blanks(text, at + 1)
    return at, whole


def read_whole(text):
    """What the text tells, of whatever size and depth."""
    rows = []  # the heads whose brackets are still to be closed, each with its parts so far
    at = 0
    while True:
        at = behind_blanks(text, at)
        word = word_at(text, at)
        at = behind_blanks(text, at + len(word))
        is_head = word[0] != "?"
        if is_head and text[at:at + 1] == "(":
            rows.append([word])
            at += 1
            continue
        at, whole = closed(text, at, rows, (word,) if is_head else word)
        if not rows and at == len(text):
            return whole
        # A comma may stand only where one more part may come behind it; the head is in the row, too.
        if not rows or text[at:at + 1] != "," or len(rows[-1]) >= MOST_PARTS:
            raise NoText(at)
        rows[-1].append(whole)
        at += 1


def read_pattern(text):
    """The pattern of the text."""
    if not isinstance(text, str):
        raise NoText(0)
    pattern = read_whole(text)
    if not is_pattern(pattern):
        raise NoText(len(text))
    return pattern
