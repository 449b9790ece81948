import unittest

from tests.helper import (
    GREATEST, LAST_ADDRESS, LEAST, ask, begin, group, last, line, move, norule, rule, rules)

WRONG_PACKETS = [(wrong, 0, 0, 0) for wrong in (LEAST, -1, LAST_ADDRESS + 1, GREATEST)]
WRONG_PACKETS += [(0, wrong, 0, 0) for wrong in (LEAST, -1, LAST_ADDRESS + 1, GREATEST)]
WRONG_PACKETS += [(0, 0, wrong, 0) for wrong in (LEAST, -1, 256, GREATEST)]
WRONG_PACKETS += [(0, 0, 0, wrong) for wrong in (LEAST, -1, 65536, GREATEST)]
WRONG_PACKETS += [(-1, -1, -1, -1)]


class Ask(unittest.TestCase):
    def test_no_rule_fits(self):
        self.assertEqual(last(begin(), ask(0, 0)), [0, 0, -1])
        self.assertEqual(last(begin(), rule(0, kind=1), ask(0, 0, 2)), [0, 0, -1])

    def test_the_first_that_fits_decides(self):
        made = (begin(), rule(0, 1, kind=1), rule(1, 0, kind=2), rule(2, 1, kind=2), rule(3, 0), rule(4, 1))
        self.assertEqual(line(*made, ask(0, 0, 1), ask(0, 0, 2), ask(0, 0, 3))[6:],
                         [[0, 1, 0], [0, 0, 1], [0, 0, 3]])

    def test_from(self):
        made = (begin(), group(4, 0, 10, 20), rule(0, source=4))
        for address, fits in ((9, False), (10, True), (20, True), (21, False), (0, False), (LAST_ADDRESS, False)):
            self.assertEqual(last(*made, ask(address, 99)), [0, 1, 0] if fits else [0, 0, -1])
        self.assertEqual(last(*made, ask(99, 10)), [0, 0, -1])

    def test_to(self):
        made = (begin(), group(4, 0, 10, 20), rule(0, target=4))
        for address, fits in ((9, False), (10, True), (20, True), (21, False), (0, False), (LAST_ADDRESS, False)):
            self.assertEqual(last(*made, ask(99, address)), [0, 1, 0] if fits else [0, 0, -1])
        self.assertEqual(last(*made, ask(10, 99)), [0, 0, -1])

    def test_all_as_from_to_and_kind(self):
        packets = ((0, 0, 0, 0), (LAST_ADDRESS, LAST_ADDRESS, 255, 65535), (0, LAST_ADDRESS, 255, 0), (7, 8, 9, 10))
        for packet in packets:
            self.assertEqual(last(begin(), rule(0), ask(*packet)), [0, 1, 0])
            self.assertEqual(last(begin(), rule(0, 0), ask(*packet)), [0, 0, 0])

    def test_kind(self):
        for kind in (0, 1, 17, 255):
            for asked in (0, 1, 17, 255):
                wanted = [0, 1, 0] if kind == asked else [0, 0, -1]
                self.assertEqual(last(begin(), rule(0, kind=kind), ask(0, 0, asked)), wanted)

    def test_ports(self):
        for lo, hi in ((0, 0), (65535, 65535), (80, 90), (0, 65535)):
            for port in (0, 79, 80, 85, 90, 91, 65535):
                wanted = [0, 1, 0] if lo <= port <= hi else [0, 0, -1]
                self.assertEqual(last(begin(), rule(0, lo=lo, hi=hi), ask(0, 0, 0, port)), wanted)

    def test_each_of_four_must_fit(self):
        made = (begin(), group(0, 0, 5, 5), group(1, 0, 6, 6), rule(0, 1, 0, 1, 17, 80, 80))
        self.assertEqual(last(*made, ask(5, 6, 17, 80)), [0, 1, 0])
        for packet in ((4, 6, 17, 80), (5, 5, 17, 80), (5, 6, 16, 80), (5, 6, 17, 81), (6, 5, 17, 80)):
            self.assertEqual(last(*made, ask(*packet)), [0, 0, -1])

    def test_an_empty_group_fits_nothing(self):
        for side in ("source", "target"):
            self.assertEqual(last(begin(), group(0), rule(0, **{side: 0}), rule(1, 0), ask(0, 0)), [0, 0, 1])

    def test_groups_are_read_as_they_are_when_asked(self):
        made = (begin(), group(0, 0, 1, 2), group(1, 2, 0, 0), rule(0, source=1))
        self.assertEqual(line(*made, ask(1, 0), group(0, 0, 2, 2), ask(1, 0))[4::2], [[0, 1, 0], [0, 0, -1]])

    def test_rules_moved_or_taken_out_between(self):
        made = (begin(), rule(0, 1), rule(1, 0))
        changed = (ask(0, 0), move(0, 1), ask(0, 0), norule(0), ask(0, 0), norule(0), ask(0, 0))
        self.assertEqual(line(*made, *changed)[3::2], [[0, 1, 0], [0, 0, 0], [0, 1, 0], [0, 0, -1]])
        self.assertEqual(line(*made, rule(0, 0, kind=1), ask(0, 0, 1), ask(0, 0, 2))[4:], [[0, 0, 0], [0, 1, 1]])

    def test_unless_a_packet(self):
        for packet in WRONG_PACKETS:
            self.assertEqual(line(begin(), ask(*packet), rule(0), ask(*packet))[1::2], [[-1], [-1]], packet)


class Rules(unittest.TestCase):
    def test_none(self):
        self.assertEqual(last(begin(), rules()), [0, 0])

    def test_six_numbers_for_each_in_order(self):
        made = (begin(), group(4), group(7), rule(0, 0, 7, 4, 17, 80, 90), rule(0, 1, -1, 4, -1, 0, 65535))
        self.assertEqual(last(*made, rules()), [0, 2, 1, -1, 4, -1, 0, 65535, 0, 7, 4, 17, 80, 90])

    def test_behind_rule_norule_and_move(self):
        made = [begin()]
        wanted = []
        told = [[place % 2, -1, -1, place, place, place + 1] for place in range(6)]
        for place, one in zip((0, 1, 0, 2, 4, 1), told):
            made.append(rule(place, *one))
            wanted.insert(place, one)
            self.assertEqual(last(*made, rules()), [0, len(wanted)] + sum(wanted, []))
        for place, target in ((0, 5), (5, 0), (2, 4), (4, 1), (3, 3)):
            made.append(move(place, target))
            wanted.insert(target, wanted.pop(place))
            self.assertEqual(last(*made, rules()), [0, len(wanted)] + sum(wanted, []))
        for place in (5, 0, 2, 0, 1, 0):
            made.append(norule(place))
            wanted.pop(place)
            self.assertEqual(last(*made, rules()), [0, len(wanted)] + sum(wanted, []))

    def test_32_rules(self):
        self.assertEqual(last(begin(), *[rule(i, kind=i) for i in range(32)], rules()),
                         [0, 32] + [n for i in range(32) for n in (1, -1, -1, i, 0, 65535)])

    def test_refused_calls_leave_them(self):
        made = (begin(), rule(0), rule(2), rule(0, 2), rule(0, 1, 5), norule(1), move(0, 1), begin(0))
        self.assertEqual(last(*made, rules()), [0, 1, 1, -1, -1, -1, 0, 65535])

    def test_begin_again(self):
        self.assertEqual(last(begin(), rule(0), begin(), rules()), [0, 0])


if __name__ == "__main__":
    unittest.main()
