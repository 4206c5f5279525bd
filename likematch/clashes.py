"""Clashes: ones told unlike that are alike, and the tellings by which they are."""

from likematch.errors import TooMany
from likematch.papers import any_alike, paper_of

MOST_LIKE = 8


def clash(web):
    """The first number of a pair told unlike that is alike, with a paper of it, or None."""
    parted = web.parted()
    for number in parted:
        one, other = parted[number]
        if web.alike(one, other):
            return (number, paper_of(web, one, other))
    return None


def told_if_few(web):
    """The likenesses told, by their numbers, where there are few enough to try all sets of them."""
    told = web.told()
    if len(told) > MOST_LIKE:
        raise TooMany("more likenesses are told than can be tried")
    return told


def choices(numbers):
    """All rising tuples of these rising numbers, shorter ones first, then rising."""
    found = []
    longest = [()]
    while longest:
        found.extend(longest)
        longest = [row + (number,) for row in longest for number in numbers if row == () or row[-1] < number]
    return found


def within(one, other):
    """Whether all numbers of the one are among those of the other."""
    return all([number in other for number in one])


def has_one_of(chosen, rows):
    """Whether all numbers of one of the rows are among the chosen ones."""
    return any([within(row, chosen) for row in rows])


def is_within_another(chosen, rows):
    """Whether another one of the rows has all the chosen numbers, too."""
    return any([row != chosen and within(chosen, row) for row in rows])


def culprits(web):
    """All sets of likenesses told by which there is a clash, and of which none can be left out for that."""
    told = told_if_few(web)
    asked = list(web.parted().values())
    found = []
    # Shorter ones come first, so what has none found so far within is a least one.
    for chosen in choices(list(told)):
        if not has_one_of(chosen, found) and any_alike([told[number] for number in chosen], asked):
            found.append(chosen)
    return found


def sound(web):
    """All sets of likenesses told by which there is no clash, and to which none can be added for that."""
    told = told_if_few(web)
    wrong = culprits(web)
    free = [chosen for chosen in choices(list(told)) if not has_one_of(chosen, wrong)]
    return [chosen for chosen in free if not is_within_another(chosen, free)]
