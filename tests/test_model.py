"""Lines made by a seeded source, against a second, slower reading of the document."""

import random
import unittest

from switchrules.groups import answers
from tests.helper import (
    GREATEST, LAST_ADDRESS, LEAST, apart, ask, begin, blocks, cover, group, inside, look, member, move, nogroup, norule,
    row, rows, rule, rules, runs, same, size)

ENDS = (LEAST, -2, -1, 0, 1, LAST_ADDRESS - 1, LAST_ADDRESS, LAST_ADDRESS + 1, GREATEST)


def covering_blocks(bits, lo, hi):
    found = []
    while lo <= hi:
        free = bits
        while lo % 2 ** free != 0 or lo + 2 ** free - 1 > hi:
            free -= 1
        found.append((lo, free))
        lo += 2 ** free
    return found


def field(bits, block):
    return block[0], (2 ** (bits - block[1]) - 1) * 2 ** block[1]


def fits(number, one):
    return number & one[1] == one[0]


def covers(wide, narrow):
    """Of rows: pass, and four fields."""
    return all(q[1] & r[1] == q[1] and r[0] & q[1] == q[0] for q, r in zip(wide[1:], narrow[1:]))


def thinned(table):
    kept = []
    for one in table:
        if not any(covers(before, one) for before in kept):
            kept.append(one)
    return kept


def joined(first, second):
    """What the two rows become, or None."""
    other = [i for i in range(1, 5) if first[i] != second[i]]
    if first[0] != second[0] or len(other) != 1:
        return None
    (value, mask), (second_value, second_mask) = first[other[0]], second[other[0]]
    if mask != second_mask or bin(value ^ second_value).count("1") != 1:
        return None
    bit = value ^ second_value
    return first[:other[0]] + ((value & ~bit, mask & ~bit),) + first[other[0] + 1:]


def all_joined(table):
    table = list(table)
    place = 0
    while place + 1 < len(table):
        one = joined(table[place], table[place + 1])
        if one is None:
            place += 1
        else:
            table[place:place + 2] = [one]
            # From the first again, as long as there are any two.
            place = 0
    return table


def trimmed(table):
    return trimmed(table[:-1]) if table and table[-1][0] == 0 else table


class Model:
    def __init__(self):
        self.begun, self.groups, self.rules, self.most = False, {}, [], 0

    def inside(self, number, address):
        yes = False
        for form, first, second in self.groups[number]:
            if (first <= address <= second) if form < 2 else self.inside(first, address):
                yes = form in (0, 2)
        return yes

    def runs(self, number):
        """Between two neighbouring cuts all addresses are alike, so one of them tells."""
        cuts = {0, LAST_ADDRESS + 1}
        for parts in self.groups.values():
            for form, first, second in parts:
                cuts |= {first, second + 1} if form < 2 else set()
        cuts = sorted(cuts)
        found = []
        for lo, behind in zip(cuts, cuts[1:]):
            if self.inside(number, lo):
                if found and found[-1][1] + 1 == lo:
                    lo = found.pop()[0]
                found.append((lo, behind - 1))
        return found

    def call(self, number, *told):
        if number == 0:
            if told[0] not in range(1, 1025):
                return [-1]
            self.__init__()
            self.begun, self.most = True, told[0]
            return [0]
        if not self.begun:
            return [-20]
        return [self.group, self.nogroup, self.rule, self.norule, self.move,
                self.tell_runs, self.member, self.size, self.blocks, self.cover, self.same, self.within,
                self.ask, self.tell_rows, self.row, self.look, self.tell_rules][number - 1](*told)

    def group(self, number, count, *listed):
        if number not in range(16) or count > 48:
            return [-1]
        parts = [listed[i:i + 3] for i in range(0, count, 3)]
        for part in parts:
            if len(part) != 3 or part[0] not in range(4):
                return [-2]
            if part[0] < 2 and not (0 <= part[1] and part[1] <= part[2] and part[2] < 2 ** 32):
                return [-2]
            if part[0] > 1 and part[2] != 0:
                return [-2]
            if part[0] > 1 and part[1] not in [g for g in self.groups if g < number]:
                return [-3]
        self.groups[number] = parts
        return [0]

    def nogroup(self, number):
        if number not in self.groups:
            return [-1]
        held = [side for told in self.rules for side in told[1:3]]
        held += [part[1] for parts in self.groups.values() for part in parts if part[0] > 1]
        if number in held:
            return [-2]
        del self.groups[number]
        return [0]

    def rule(self, place, *told):
        passes, source, target, kind, lo, hi = told
        if place not in range(len(self.rules) + 1):
            return [-1]
        if passes not in (0, 1) or kind not in range(-1, 256):
            return [-2]
        if lo not in range(65536) or hi not in range(65536) or lo > hi:
            return [-2]
        if {source, target} - {-1} - set(self.groups):
            return [-3]
        if len(self.rules) == 32:
            return [-4]
        self.rules = self.rules[:place] + [told] + self.rules[place:]
        return [0]

    def norule(self, place):
        if place not in range(len(self.rules)):
            return [-1]
        self.rules = self.rules[:place] + self.rules[place + 1:]
        return [0]

    def move(self, place, target):
        if place not in range(len(self.rules)) or target not in range(len(self.rules)):
            return [-1]
        taken = self.rules[place]
        self.norule(place)
        self.rules = self.rules[:target] + [taken] + self.rules[target:]
        return [0]

    def tell_runs(self, number):
        if number not in self.groups:
            return [-1]
        found = self.runs(number)
        return [0, len(found)] + [end for run in found for end in run]

    def member(self, number, address):
        if number not in self.groups:
            return [-1]
        return [int(self.inside(number, address))] if 0 <= address < 2 ** 32 else [-2]

    def size(self, number):
        if number not in self.groups:
            return [-1]
        return [sum(hi - lo + 1 for lo, hi in self.runs(number))]

    def blocks_of(self, number):
        return [block for lo, hi in self.runs(number) for block in covering_blocks(32, lo, hi)]

    def blocks(self, number):
        if number not in self.groups:
            return [-1]
        found = self.blocks_of(number)
        return [0, len(found)] + [n for block in found for n in block]

    def cover(self, bits, lo, hi):
        if bits not in range(1, 33) or lo not in range(2 ** bits) or hi not in range(2 ** bits):
            return [-1]
        found = covering_blocks(bits, lo, hi)
        return [0, len(found)] + [n for block in found for n in block]

    def same(self, number, other):
        if {number, other} - set(self.groups):
            return [-1]
        return [int(self.runs(number) == self.runs(other))]

    def within(self, number, other):
        if {number, other} - set(self.groups):
            return [-1]
        return [int(all(any(lo <= first and last <= hi for lo, hi in self.runs(other))
                        for first, last in self.runs(number)))]

    def is_packet(self, packet):
        return all(number in range(2 ** bits) for number, bits in zip(packet, (32, 32, 8, 16)))

    def ask(self, *packet):
        if not self.is_packet(packet):
            return [-1]
        for place, (passes, source, target, kind, lo, hi) in enumerate(self.rules):
            sides = zip((source, target), packet)
            if all(side == -1 or self.inside(side, address) for side, address in sides):
                if kind in (-1, packet[2]) and lo <= packet[3] <= hi:
                    return [0, passes, place]
        return [0, 0, -1]

    def side_fields(self, side):
        return [(0, 0)] if side == -1 else [field(32, block) for block in self.blocks_of(side)]

    def raw_rows(self):
        """None if too many."""
        found = []
        for passes, source, target, kind, lo, hi in self.rules:
            sources, targets = self.side_fields(source), self.side_fields(target)
            ports = [field(16, block) for block in covering_blocks(16, lo, hi)]
            if len(sources) * len(targets) * len(ports) > self.most:
                return None
            kinds = (0, 0) if kind == -1 else (kind, 255)
            found += [(passes, a, b, kinds, c) for a in sources for b in targets for c in ports]
        return found if len(found) <= self.most else None

    def table(self):
        return trimmed(thinned(all_joined(thinned(self.raw_rows()))))

    def tell_rows(self):
        raw = self.raw_rows()
        return [-1] if raw is None else [0, len(raw), len(self.table())]

    def row(self, place):
        if self.raw_rows() is None:
            return [-1]
        table = self.table()
        if place not in range(len(table)):
            return [-2]
        return [0, table[place][0]] + [n for one in table[place][1:] for n in one]

    def look(self, *packet):
        if not self.is_packet(packet):
            return [-2]
        if self.raw_rows() is None:
            return [-1]
        for place, one in enumerate(self.table()):
            if all(fits(number, told) for number, told in zip(packet, one[1:])):
                return [0, one[0], place]
        return [0, 0, -1]

    def tell_rules(self):
        return [0, len(self.rules)] + [n for told in self.rules for n in told]


class Maker:
    """Mostly right calls, with few ids and near addresses, so that they meet."""

    def __init__(self, seed):
        self.source = random.Random(seed)

    def pick(self, *choices):
        return self.source.choice(choices)

    def number(self, lo, hi):
        if self.source.random() < 0.02:
            return self.source.choice(ENDS)
        return self.source.randint(lo, hi)

    def address(self):
        return self.number(0, 60) if self.source.random() < 0.9 else self.pick(*ENDS)

    def part(self, number):
        form = self.number(0, 3)
        if form in (2, 3):
            return [form, self.number(0, max(0, number - 1)), self.number(0, 0)]
        ends = [self.address(), self.address()]
        return [form] + (sorted(ends) if self.source.random() < 0.97 else ends)

    def group(self):
        number = self.number(0, 6)
        parts = [n for i in range(self.source.choice((0, 1, 2, 3, 4, 16, 17))) for n in self.part(min(number, 6))]
        cut = self.source.random() < 0.03
        return group(number, *(parts[:-1] if cut else parts))

    def side(self):
        return self.pick(-1, self.number(0, 6))

    def kind(self):
        return self.pick(-1, 0, 1, 17, self.number(-1, 255))

    def rule(self):
        ports = sorted([self.number(0, 9), self.number(0, 9)])
        lo, hi = self.pick(ports, ports, ports[:1] * 2, ports[::-1], [0, 65535], [self.number(0, 65535), 65535])
        return rule(self.number(0, 6), self.number(0, 1), self.side(), self.side(), self.kind(), lo, hi)

    def packet(self):
        port = self.number(0, 9)
        return self.address(), self.address(), max(0, self.kind()), port

    def cover(self):
        bits = self.pick(self.number(1, 32), self.number(1, 5))
        top = 2 ** min(max(bits, 0), 33)
        lo = self.pick(0, self.number(0, top), self.number(0, 9))
        return cover(bits, lo, self.pick(top - 1, self.number(0, top)))

    def call(self):
        choice = self.source.random()
        if choice < 0.01:
            return begin(self.number(1, self.pick(5, 60, 1024)))
        if choice < 0.2:
            return self.group()
        if choice < 0.4:
            return self.rule()
        small = self.number(0, 6)
        other = self.number(0, 6)
        return self.pick(nogroup(small), norule(small), move(small, other), runs(small), member(small, self.address()),
                         size(small), blocks(small), self.cover(), same(small, other), inside(small, other),
                         ask(*self.packet()), rows(), row(small), row(other), look(*self.packet()), rules())

    def line(self):
        start = [begin(self.number(1, self.pick(5, 60, 400)))] if self.source.random() < 0.97 else []
        return start + [self.call() for i in range(self.source.randint(1, 120))]


class Lines(unittest.TestCase):
    def test_lines_against_the_model(self):
        seen = {}
        for seed in range(150):
            calls = Maker(seed).line()
            model = Model()
            wanted = [model.call(*call) for call in calls]
            given = apart(answers([n for call in calls for n in call]))
            for call, one, other in zip(calls, given, wanted, strict=True):
                self.assertEqual(one, other, (seed, call))
                seen[call[0], min(other[0], 0)] = True
        # The lines are of use only while they bring every answer about.
        refusals = {0: 1, 1: 3, 2: 2, 3: 3, 4: 1, 5: 1, 6: 1, 7: 2, 8: 1, 9: 1, 10: 1, 11: 1, 12: 1, 13: 1, 14: 1,
                    15: 2, 16: 2, 17: 0}
        for number, count in refusals.items():
            for answer in range(-count, 1):
                self.assertIn((number, answer), seen)


class Tables(unittest.TestCase):
    """Many rules of few values, so that rows are left out, joined and joined again."""

    def rules(self, source):
        made = [begin(1024)]
        for number in range(3):
            parts = [(source.choice((0, 0, 1)), *self.range(source, 7)) for i in range(source.choice((0, 1, 1, 3)))]
            made.append(group(number, *[n for part in parts for n in part]))
        # Often a rule is the one before with another kind or other ports: such rows can be joined.
        sides = source.choice(((-1,), (-1, -1, 0, 1, 2)))
        told = []
        for place in range(source.randint(1, 24)):
            if not told or source.random() < 0.3:
                told = [source.choice((0, 1, 1)), source.choice(sides), source.choice(sides), 0, 0, 0]
            if source.random() < 0.5:
                told = told[:3] + [source.choice((-1, 0, 1, 2, 3))] + told[4:]
            else:
                told = told[:4] + source.choice(([0, 0], [1, 1], [2, 2], [3, 3], [0, 1], [2, 3], self.range(source, 7)))
            made.append(rule(place, *told))
        return made

    def range(self, source, top):
        return sorted([source.randint(0, top), source.randint(0, top)])

    def test_tables_against_the_model(self):
        joined_some = thinned_again = 0
        for seed in range(500):
            source = random.Random(seed)
            made = self.rules(source)
            packets = [[source.randint(0, 8), source.randint(0, 8), source.randint(0, 3), source.randint(0, 8)]
                       for i in range(40)]
            model = Model()
            for call in made:
                model.call(*call)
            raw = model.raw_rows()
            table = model.table()
            once = thinned(raw)
            joined_some += len(all_joined(once)) < len(once)
            thinned_again += len(thinned(all_joined(once))) < len(all_joined(once))
            asked = [rows()] + [row(i) for i in range(min(len(table), 200) + 1)]
            asked += [call(*packet) for packet in packets for call in (look, ask)]
            given = apart(answers([n for call in made + asked for n in call]))[len(made):]
            self.assertEqual(given[0], [0, len(raw), len(table)], seed)
            for one, told in zip(table[:200], given[1:]):
                self.assertEqual(told, [0, one[0]] + [n for pair in one[1:] for n in pair], seed)
            pairs = given[len(asked) - 80:]
            for i, packet in enumerate(packets):
                self.assertEqual(pairs[2 * i + 1], model.ask(*packet), (seed, packet))
                self.assertEqual(pairs[2 * i][:2], pairs[2 * i + 1][:2], (seed, packet))
        # The tables are of use only while there is something to be joined and to be thinned again.
        self.assertGreater(joined_some, 100)
        self.assertGreater(thinned_again, 5)


if __name__ == "__main__":
    unittest.main()
