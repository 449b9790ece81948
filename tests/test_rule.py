import unittest

from tests.helper import GREATEST, LEAST, begin, group, last, line, move, nogroup, norule, rule, rules


def told(count):
    """Rules 0 to count - 1 in order, the rule i having the group i as its from."""
    made = [begin()] + [group(i) for i in range(count)]
    return made + [rule(i, source=i) for i in range(count)]


def order(made, count):
    """The groups of the rules in order: all rules but one are taken out, one group is held.

    So it is nogroup that tells them; what rules tells is asked beside it.
    """
    found = []
    for place in range(count):
        alone = made + [norule(place + 1)] * (count - 1 - place) + [norule(0)] * place
        freed = line(*alone, *[nogroup(i) for i in range(16)])[-16:]
        found.append([i for i in range(16) if freed[i] == [-2]])
    listed = last(*made, rules())[2:]
    assert found == [sorted({*listed[i + 1:i + 3]} - {-1}) for i in range(0, len(listed), 6)]
    return found


class Rule(unittest.TestCase):
    def test_it_stands_at_its_place(self):
        made = told(3) + [group(9), group(10)]
        for place in range(4):
            wanted = [[0], [1], [2]]
            wanted.insert(place, [9])
            self.assertEqual(order(made + [rule(place, source=9)], 4), wanted)
            wanted.insert(place, [10])
            self.assertEqual(order(made + [rule(place, source=9), rule(place, target=10)], 5), wanted)

    def test_from_and_to_are_both_kept(self):
        self.assertEqual(order([begin(), group(4), group(7), rule(0, source=7, target=4)], 1), [[4, 7]])

    def test_all_six_numbers_are_kept(self):
        made = (begin(), group(4), group(7), rule(0, 0, 7, 4, 17, 80, 90), rule(0, 1))
        self.assertEqual(last(*made, rules()), [0, 2, 1, -1, -1, -1, 0, 65535, 0, 7, 4, 17, 80, 90])

    def test_place(self):
        for place in (0, 1, 2):
            self.assertEqual(last(*told(2), rule(place)), [0])
        for place in (LEAST, -1, 3, 4, GREATEST):
            self.assertEqual(last(*told(2), rule(place)), [-1])
        self.assertEqual(last(begin(), rule(1)), [-1])

    def test_pass(self):
        for passes in (0, 1):
            self.assertEqual(last(begin(), rule(0, passes)), [0])
        for passes in (LEAST, -1, 2, GREATEST):
            self.assertEqual(last(begin(), rule(0, passes)), [-2])

    def test_kind(self):
        for kind in (-1, 0, 1, 254, 255):
            self.assertEqual(last(begin(), rule(0, kind=kind)), [0])
        for kind in (LEAST, -2, 256, GREATEST):
            self.assertEqual(last(begin(), rule(0, kind=kind)), [-2])

    def test_ports(self):
        for lo, hi in ((0, 0), (0, 65535), (65535, 65535), (80, 80), (80, 81)):
            self.assertEqual(last(begin(), rule(0, lo=lo, hi=hi)), [0])
        wrong = ((-1, 0), (-1, -1), (0, 65536), (65536, 65536), (81, 80), (65535, 0), (LEAST, GREATEST), (0, GREATEST))
        for lo, hi in wrong:
            self.assertEqual(last(begin(), rule(0, lo=lo, hi=hi)), [-2], (lo, hi))

    def test_from_and_to(self):
        for side in ("source", "target"):
            for number in (-1, 0, 15):
                self.assertEqual(last(begin(), group(0), group(15), rule(0, **{side: number})), [0])
            for number in (LEAST, -2, 1, 14, 16, GREATEST):
                self.assertEqual(last(begin(), group(0), group(15), rule(0, **{side: number})), [-3])

    def test_32_rules(self):
        made = [begin()] + [rule(0)] * 32
        self.assertEqual(line(*made)[-1], [0])
        for place in (0, 16, 32):
            self.assertEqual(last(*made, rule(place)), [-4])
        self.assertEqual(line(*made, norule(31), rule(31), rule(32))[-3:], [[0], [0], [-4]])

    def test_order_of_refusals(self):
        full = [begin()] + [rule(0)] * 32
        self.assertEqual(last(*full, rule(33, 2, 5, 5)), [-1])
        self.assertEqual(last(*full, rule(33)), [-1])
        self.assertEqual(last(*full, rule(32, 2, 5, 5)), [-2])
        self.assertEqual(last(*full, rule(32, 2)), [-2])
        self.assertEqual(last(*full, rule(32, 1, 5)), [-3])
        self.assertEqual(last(*full, rule(32, 1, -1, 5)), [-3])
        self.assertEqual(last(*full, rule(32)), [-4])
        self.assertEqual(last(begin(), rule(1, 2, 5)), [-1])
        self.assertEqual(last(begin(), rule(0, 1, 5, 5, 256)), [-2])
        self.assertEqual(last(begin(), rule(0, 1, 5, 5, 0, 2, 1)), [-2])

    def test_refused_it_changes_nothing(self):
        made = told(2) + [group(9)]
        for wrong in (rule(3, source=9), rule(0, 2, source=9), rule(0, source=9, target=8)):
            self.assertEqual(order(made + [wrong], 2), [[0], [1]])
            self.assertEqual(last(*made, wrong, norule(2)), [-1])
            self.assertEqual(last(*made, wrong, nogroup(9)), [0])
        full = [begin(), group(9)] + [rule(0)] * 32 + [rule(0, source=9)]
        self.assertEqual(line(*full, norule(32), nogroup(9))[-3:], [[-4], [-1], [0]])


class Norule(unittest.TestCase):
    def test_it_is_gone_and_those_behind_move_up(self):
        for place in range(4):
            wanted = [[i] for i in range(4) if i != place]
            made = told(4) + [norule(place)]
            self.assertEqual(last(*made), [0])
            self.assertEqual(order(made, 3), wanted)
            self.assertEqual(last(*made, norule(3)), [-1])
            self.assertEqual(last(*made, nogroup(place)), [0])

    def test_no_rule_there(self):
        for place in (LEAST, -1, 3, 4, GREATEST):
            made = told(3) + [norule(place)]
            self.assertEqual(last(*made), [-1])
            self.assertEqual(order(made, 3), [[0], [1], [2]])
        self.assertEqual(last(begin(), norule(0)), [-1])


class Move(unittest.TestCase):
    def test_it_stands_at_the_place_to(self):
        for place in range(4):
            for target in range(4):
                wanted = [[i] for i in range(4) if i != place]
                wanted.insert(target, [place])
                made = told(4) + [move(place, target)]
                self.assertEqual(last(*made), [0])
                self.assertEqual(order(made, 4), wanted, (place, target))

    def test_no_rule_at_one_of_both(self):
        for wrong in (LEAST, -1, 3, 4, GREATEST):
            for place, target in ((wrong, 0), (0, wrong), (wrong, wrong)):
                made = told(3) + [move(place, target)]
                self.assertEqual(last(*made), [-1], (place, target))
                self.assertEqual(order(made, 3), [[0], [1], [2]])
        self.assertEqual(last(begin(), move(0, 0)), [-1])

    def test_with_32_rules(self):
        made = [begin()] + [rule(0)] * 32
        self.assertEqual(line(*made, move(0, 31), move(31, 0), move(0, 32))[-3:], [[0], [0], [-1]])


if __name__ == "__main__":
    unittest.main()
