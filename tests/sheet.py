"""Writes calls as they are handed in, and reads answers as they are given back."""

from curlingmatch.match import answers

MOST = 2147483647
LEAST = -2147483648


def begin(ends=8, hammer=1, time=1000):
    return [1, ends, hammer, time]


def told(numbers):
    """A delivery, of whatever numbers."""
    return [2, len(numbers)] + list(numbers)


def deliver(*stones):
    return told([number for stone in stones for number in stone])


def time(side, seconds):
    return [3, side, seconds]


def give(side):
    return [4, side]


def now():
    return [5]


def stones():
    return [6]


def scores():
    return [7]


def shot():
    return [8]


def ahead(count):
    """So many deliveries, each of which puts all stones out."""
    return [deliver()] * count


def an_end(*stones):
    """The sixteen deliveries of an end; each stone lies where it's told from its own on."""
    return [deliver(*[stone for stone in stones if stone[0] <= number]) for number in range(16)]


def ask(*calls):
    """What each of the calls answers, a list each."""
    given = answers([number for call in calls for number in call])
    split = []
    at = 0
    while at < len(given):
        split.append(given[at + 1:at + 1 + given[at]])
        assert len(split[-1]) == given[at], given
        at += 1 + given[at]
    assert len(split) == len(calls), given
    return split


def last(*calls):
    return ask(*calls)[-1]
