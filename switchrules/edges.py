"""Sets of addresses, each kept as its edges.

The edges are the numbers, rising, at which "in" and "not in" change places: the
first address of a run, then the first address behind it, and so on. So they are
even in number, and behind an odd number of them one is in the set.
"""


# The edges of a set once the touched addresses, given by edges too, are made yes or no.
def mark(edges, touched, yes):
    marked = []
    inside = False
    i = 0
    j = 0
    while i < len(edges) or j < len(touched):
        if j == len(touched) or (i < len(edges) and edges[i] < touched[j]):
            here = edges[i]
        else:
            here = touched[j]
        if i < len(edges) and edges[i] == here:
            i += 1
        if j < len(touched) and touched[j] == here:
            j += 1
        now = yes if j % 2 == 1 else i % 2 == 1
        # Only a change makes an edge, so runs that touch come out as one.
        if now != inside:
            marked.append(here)
            inside = now
    return marked


def list_runs(edges):
    listed = []
    for i in range(0, len(edges), 2):
        listed.append(edges[i])
        listed.append(edges[i + 1] - 1)
    return listed


def count_addresses(edges):
    return sum([edges[i + 1] - edges[i] for i in range(0, len(edges), 2)])
