"""Lines made by a seeded source, against a second, slower reading of the document."""

import random
import unittest

from switchrules.groups import answers
from tests.helper import GREATEST, LAST_ADDRESS, LEAST, apart, begin, group, member, move, nogroup, norule, rule, runs, size

ENDS = (LEAST, -2, -1, 0, 1, LAST_ADDRESS - 1, LAST_ADDRESS, LAST_ADDRESS + 1, GREATEST)


class Model:
    def __init__(self):
        self.begun, self.groups, self.rules = False, {}, []

    def inside(self, number, address):
        yes = False
        for form, first, second in self.groups[number]:
            if (first <= address <= second) if form < 2 else self.inside(first, address):
                yes = form in (0, 2)
        return yes

    def runs(self, number):
        """Between two neighbouring cuts all addresses are alike, so one of them tells."""
        cuts = {0, LAST_ADDRESS + 1}
        for parts in self.groups.values():
            for form, first, second in parts:
                cuts |= {first, second + 1} if form < 2 else set()
        cuts = sorted(cuts)
        found = []
        for lo, behind in zip(cuts, cuts[1:]):
            if self.inside(number, lo):
                if found and found[-1][1] + 1 == lo:
                    lo = found.pop()[0]
                found.append((lo, behind - 1))
        return found

    def call(self, number, *told):
        if number == 0:
            if told[0] not in range(1, 1025):
                return [-1]
            self.__init__()
            self.begun = True
            return [0]
        if not self.begun:
            return [-20]
        return [self.group, self.nogroup, self.rule, self.norule, self.move,
                self.tell_runs, self.member, self.size][number - 1](*told)

    def group(self, number, count, *listed):
        if number not in range(16) or count > 48:
            return [-1]
        parts = [listed[i:i + 3] for i in range(0, count, 3)]
        for part in parts:
            if len(part) != 3 or part[0] not in range(4):
                return [-2]
            if part[0] < 2 and not (0 <= part[1] and part[1] <= part[2] and part[2] < 2 ** 32):
                return [-2]
            if part[0] > 1 and part[2] != 0:
                return [-2]
            if part[0] > 1 and part[1] not in [g for g in self.groups if g < number]:
                return [-3]
        self.groups[number] = parts
        return [0]

    def nogroup(self, number):
        if number not in self.groups:
            return [-1]
        held = [side for told in self.rules for side in told[1:3]]
        held += [part[1] for parts in self.groups.values() for part in parts if part[0] > 1]
        if number in held:
            return [-2]
        del self.groups[number]
        return [0]

    def rule(self, place, *told):
        passes, source, target, kind, lo, hi = told
        if place not in range(len(self.rules) + 1):
            return [-1]
        if passes not in (0, 1) or kind not in range(-1, 256):
            return [-2]
        if lo not in range(65536) or hi not in range(65536) or lo > hi:
            return [-2]
        if {source, target} - {-1} - set(self.groups):
            return [-3]
        if len(self.rules) == 32:
            return [-4]
        self.rules = self.rules[:place] + [told] + self.rules[place:]
        return [0]

    def norule(self, place):
        if place not in range(len(self.rules)):
            return [-1]
        self.rules = self.rules[:place] + self.rules[place + 1:]
        return [0]

    def move(self, place, target):
        if place not in range(len(self.rules)) or target not in range(len(self.rules)):
            return [-1]
        taken = self.rules[place]
        self.norule(place)
        self.rules = self.rules[:target] + [taken] + self.rules[target:]
        return [0]

    def tell_runs(self, number):
        if number not in self.groups:
            return [-1]
        found = self.runs(number)
        return [0, len(found)] + [end for run in found for end in run]

    def member(self, number, address):
        if number not in self.groups:
            return [-1]
        return [int(self.inside(number, address))] if 0 <= address < 2 ** 32 else [-2]

    def size(self, number):
        if number not in self.groups:
            return [-1]
        return [sum(hi - lo + 1 for lo, hi in self.runs(number))]


class Maker:
    """Mostly right calls, with few ids and near addresses, so that they meet."""

    def __init__(self, seed):
        self.source = random.Random(seed)

    def pick(self, *choices):
        return self.source.choice(choices)

    def number(self, lo, hi):
        if self.source.random() < 0.02:
            return self.source.choice(ENDS)
        return self.source.randint(lo, hi)

    def address(self):
        return self.number(0, 60) if self.source.random() < 0.9 else self.pick(*ENDS)

    def part(self, number):
        form = self.number(0, 3)
        if form in (2, 3):
            return [form, self.number(0, max(0, number - 1)), self.number(0, 0)]
        ends = [self.address(), self.address()]
        return [form] + (sorted(ends) if self.source.random() < 0.97 else ends)

    def group(self):
        number = self.number(0, 6)
        parts = [n for i in range(self.source.choice((0, 1, 2, 3, 4, 16, 17))) for n in self.part(min(number, 6))]
        cut = self.source.random() < 0.03
        return group(number, *(parts[:-1] if cut else parts))

    def side(self):
        return self.pick(-1, self.number(0, 6))

    def rule(self):
        lo = self.number(0, 3)
        return rule(self.number(0, 6), self.number(0, 1), self.side(), self.side(), self.number(-1, 255),
                    lo, self.number(lo, 3) if lo < 3 else self.number(0, 65535))

    def call(self):
        choice = self.source.random()
        if choice < 0.005:
            return begin(self.number(1, 1024))
        if choice < 0.3:
            return self.group()
        if choice < 0.5:
            return self.rule()
        small = self.number(0, 6)
        return self.pick(nogroup(small), norule(small), move(small, self.number(0, 6)), runs(small),
                         member(small, self.address()), size(small))

    def line(self):
        start = [begin(self.number(1, 1024))] if self.source.random() < 0.97 else []
        return start + [self.call() for i in range(self.source.randint(1, 120))]


class Lines(unittest.TestCase):
    def test_lines_against_the_model(self):
        seen = {}
        for seed in range(150):
            calls = Maker(seed).line()
            model = Model()
            wanted = [model.call(*call) for call in calls]
            given = apart(answers([n for call in calls for n in call]))
            for call, one, other in zip(calls, given, wanted, strict=True):
                self.assertEqual(one, other, (seed, call))
                seen[call[0], min(other[0], 0)] = True
        # The lines are of use only while they bring every answer about.
        refusals = {0: 1, 1: 3, 2: 2, 3: 3, 4: 1, 5: 1, 6: 1, 7: 2, 8: 1}
        for number, count in refusals.items():
            for answer in range(-count, 1):
                self.assertIn((number, answer), seen)


if __name__ == "__main__":
    unittest.main()
