"""Rows, and what is asked of them.

A row is a tuple: lets pass (1) or not (0), value, mask. All that is asked of a
row's four fields is asked bit by bit, so the four values stand side by side in one
number, and the four masks in another: from, to, kind, port, from having the
highest bits. A packet is put side by side in the same way.
"""

from switchrules.limits import ALL, LAST_ADDRESS, LAST_KIND, LAST_PORT

ADDRESS_BITS = 32
KIND_BITS = 8
PORT_BITS = 16


def put_side_by_side(source, target, kind, port):
    addresses = (source << ADDRESS_BITS) | target
    return (((addresses << KIND_BITS) | kind) << PORT_BITS) | port


def take_apart(number):
    kinds = number >> PORT_BITS
    targets = kinds >> KIND_BITS
    sources = targets >> ADDRESS_BITS
    return [sources, targets & LAST_ADDRESS, kinds & LAST_KIND, number & LAST_PORT]


# A field by itself is a tuple: value, mask.
def list_fields(row):
    return list(zip(take_apart(row[1]), take_apart(row[2])))


def fields_of_blocks(blocks, bits):
    return [(first, ((1 << (bits - free)) - 1) << free) for first, free in blocks]


def field_of_kind(kind):
    return (0, 0) if kind == ALL else (kind, LAST_KIND)


# The raw rows of a rule, by the blocks of its from, of its to and of its ports.
def make_raw_rows(rule, sources, targets, ports):
    kind = field_of_kind(rule[3])
    target_fields = fields_of_blocks(targets, ADDRESS_BITS)
    port_fields = fields_of_blocks(ports, PORT_BITS)
    rows = []
    for source in fields_of_blocks(sources, ADDRESS_BITS):
        for target in target_fields:
            for port in port_fields:
                value = put_side_by_side(source[0], target[0], kind[0], port[0])
                mask = put_side_by_side(source[1], target[1], kind[1], port[1])
                rows.append((rule[0], value, mask))
    return rows


# No two of the rows in joined can be joined. So when a row comes, the first two that
# can be are the last of them and it; then the one before that and what these became.
def join_rows(rows):
    joined = []
    for row in rows:
        latest = row
        while joined and can_be_joined(joined[-1], latest):
            latest = join_two(joined.pop(), latest)
        joined.append(latest)
    return joined


# One bit of all four values is one bit of one field, the other three being the same.
def can_be_joined(first, second):
    return first[0] == second[0] and first[2] == second[2] and is_one_bit(first[1] ^ second[1])


def is_one_bit(number):
    return number != 0 and number & (number - 1) == 0


def join_two(first, second):
    bit = first[1] ^ second[1]
    return (first[0], first[1] & second[1], first[2] ^ bit)


def trim(rows):
    end = len(rows)
    while end > 0 and rows[end - 1][0] == 0:
        end -= 1
    return rows[:end]


# The place of the first row that the packet fits, or -1.
def find_row(rows, packet):
    for place, row in enumerate(rows):
        if packet & row[2] == row[1]:
            return place
    return -1
