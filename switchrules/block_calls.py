"""The calls that tell blocks."""

from switchrules.blocks import cover_range, cover_runs

MOST_BITS = 32


def answer_blocks(switch, number):
    if number not in switch.groups:
        return [-1]
    return tell_blocks(cover_runs(switch.edges_of(number)))


def answer_cover(bits, lo, hi):
    if not 1 <= bits <= MOST_BITS:
        return [-1]
    behind = 1 << bits
    if not 0 <= lo < behind or not 0 <= hi < behind:
        return [-1]
    return tell_blocks(cover_range(lo, hi))


def tell_blocks(blocks):
    answer = [0, len(blocks)]
    for first, free in blocks:
        answer.append(first)
        answer.append(free)
    return answer
