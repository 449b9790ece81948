"""Calls as lists of numbers, and answers taken apart call by call."""

from switchrules.groups import answers

LEAST = -(2 ** 63)
GREATEST = 2 ** 63 - 1
LAST_ADDRESS = 2 ** 32 - 1

# Every call's number and how many whole numbers it has (group: with its count).
WIDTHS = {0: 1, 1: 2, 2: 1, 3: 7, 4: 1, 5: 2, 6: 1, 7: 2, 8: 1, 9: 1, 10: 3, 11: 2, 12: 2,
          13: 4, 14: 0, 15: 1, 16: 4, 17: 0}


def begin(most=99):
    return [0, most]


def group(number, *parts):
    return [1, number, len(parts), *parts]


def nogroup(number):
    return [2, number]


def rule(place, passes=1, source=-1, target=-1, kind=-1, lo=0, hi=65535):
    return [3, place, passes, source, target, kind, lo, hi]


def norule(place):
    return [4, place]


def move(place, target):
    return [5, place, target]


def runs(number):
    return [6, number]


def member(number, address):
    return [7, number, address]


def size(number):
    return [8, number]


def blocks(number):
    return [9, number]


def cover(bits, lo, hi):
    return [10, bits, lo, hi]


def same(number, other):
    return [11, number, other]


def inside(number, other):
    return [12, number, other]


def ask(source, target, kind=0, port=0):
    return [13, source, target, kind, port]


def rows():
    return [14]


def row(place):
    return [15, place]


def look(source, target, kind=0, port=0):
    return [16, source, target, kind, port]


def rules():
    return [17]


def table(*made):
    """How many raw rows there are, and the table: for each row pass and four fields."""
    answer, raw, count = last(*made, rows())
    assert answer == 0
    told = line(*made, *[row(place) for place in range(count)], row(count))[len(made):]
    assert told.pop() == [-2] and all(one[0] == 0 and len(one) == 10 for one in told), told
    return raw, [(one[1], *[tuple(one[i:i + 2]) for i in range(2, 10, 2)]) for one in told]


def apart(given):
    """The answers, one list for each call."""
    found = []
    place = 0
    while place < len(given):
        end = place + 1 + given[place]
        assert given[place] >= 1 and end <= len(given), given
        found.append(given[place + 1:end])
        place = end
    return found


def line(*calls):
    """What each of the calls answers."""
    found = apart(answers([number for call in calls for number in call]))
    assert len(found) == len(calls), found
    return found


def last(*calls):
    """What the last of the calls answers."""
    return line(*calls)[-1]
