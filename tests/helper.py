"""Calls as lists of numbers, and answers taken apart call by call."""

from switchrules.groups import answers

LEAST = -(2 ** 63)
GREATEST = 2 ** 63 - 1
LAST_ADDRESS = 2 ** 32 - 1

# Every call's number and how many whole numbers it has (group: with its count).
WIDTHS = {0: 1, 1: 2, 2: 1, 3: 7, 4: 1, 5: 2, 6: 1, 7: 2, 8: 1, 9: 1, 10: 3, 11: 2, 12: 2,
          13: 4, 14: 0, 15: 1, 16: 4, 17: 0}


def begin(most=99):
    return [0, most]


def group(number, *parts):
    return [1, number, len(parts), *parts]


def nogroup(number):
    return [2, number]


def rule(place, passes=1, source=-1, target=-1, kind=-1, lo=0, hi=65535):
    return [3, place, passes, source, target, kind, lo, hi]


def norule(place):
    return [4, place]


def move(place, target):
    return [5, place, target]


def runs(number):
    return [6, number]


def member(number, address):
    return [7, number, address]


def size(number):
    return [8, number]


def apart(given):
    """The answers, one list for each call."""
    found = []
    place = 0
    while place < len(given):
        end = place + 1 + given[place]
        assert given[place] >= 1 and end <= len(given), given
        found.append(given[place + 1:end])
        place = end
    return found


def line(*calls):
    """What each of the calls answers."""
    found = apart(answers([number for call in calls for number in call]))
    assert len(found) == len(calls), found
    return found


def last(*calls):
    """What the last of the calls answers."""
    return line(*calls)[-1]
