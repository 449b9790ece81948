"""Blocks: ranges of numbers that are alike but for their last bits.

A block is a tuple: its first number, and how many of the last bits are free.
"""


# How many bits the numbers have isn't asked: no block within lo to hi has more free ones.
def cover_range(lo, hi):
    blocks = []
    first = lo
    while first <= hi:
        free = count_free(first, hi)
        blocks.append((first, free))
        first += 1 << free
    return blocks


def count_free(first, hi):
    room = (hi - first + 1).bit_length() - 1
    # 0 is a multiple of every power of two, so there only the room bounds the block.
    if first == 0:
        return room
    return min(room, (first & -first).bit_length() - 1)


# Each run is covered by itself. The runs are given by edges.
def cover_runs(edges):
    blocks = []
    for i in range(0, len(edges), 2):
        blocks.extend(cover_range(edges[i], edges[i + 1] - 1))
    return blocks
