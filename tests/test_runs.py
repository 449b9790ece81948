import unittest

from tests.helper import GREATEST, LAST_ADDRESS, LEAST, begin, group, last, line, member, nogroup, rule, runs, size


class Runs(unittest.TestCase):
    def check(self, parts, *wanted):
        """The runs, and size and member by them."""
        made = (begin(), group(5, *parts))
        numbers = [number for run in wanted for number in run]
        self.assertEqual(last(*made, runs(5)), [0, len(wanted)] + numbers)
        self.assertEqual(last(*made, size(5)), [sum(hi - lo + 1 for lo, hi in wanted)])
        for number in numbers + [0, LAST_ADDRESS]:
            for address in (number - 1, number, number + 1):
                if 0 <= address <= LAST_ADDRESS:
                    inside = any(lo <= address <= hi for lo, hi in wanted)
                    self.assertEqual(last(*made, member(5, address)), [int(inside)], address)

    def test_example(self):
        self.assertEqual(line(begin(99), group(3, 0, 4, 11, 1, 6, 6), runs(3)), [[0], [0], [0, 2, 4, 5, 7, 11]])

    def test_empty(self):
        self.check(())
        self.check((1, 0, LAST_ADDRESS))
        self.check((0, 3, 9, 1, 3, 9))
        self.check((0, 3, 9, 1, 0, LAST_ADDRESS))

    def test_all(self):
        self.check((0, 0, LAST_ADDRESS), (0, LAST_ADDRESS))
        self.check((0, 0, 99, 0, 100, LAST_ADDRESS), (0, LAST_ADDRESS))
        self.check((0, 100, LAST_ADDRESS, 0, 0, 99), (0, LAST_ADDRESS))

    def test_ends_of_the_addresses(self):
        self.check((0, 0, 0), (0, 0))
        self.check((0, LAST_ADDRESS, LAST_ADDRESS), (LAST_ADDRESS, LAST_ADDRESS))
        self.check((0, LAST_ADDRESS, LAST_ADDRESS, 0, 0, 0), (0, 0), (LAST_ADDRESS, LAST_ADDRESS))
        self.check((0, 0, LAST_ADDRESS, 1, 0, 0), (1, LAST_ADDRESS))
        self.check((0, 0, LAST_ADDRESS, 1, LAST_ADDRESS, LAST_ADDRESS), (0, LAST_ADDRESS - 1))

    def test_rising_whatever_the_order_of_the_parts(self):
        self.check((0, 50, 60, 0, 10, 20, 0, 30, 40), (10, 20), (30, 40), (50, 60))

    def test_runs_that_touch_or_overlap_are_one(self):
        self.check((0, 10, 20, 0, 21, 30), (10, 30))
        self.check((0, 21, 30, 0, 10, 20), (10, 30))
        self.check((0, 10, 25, 0, 20, 30), (10, 30))
        self.check((0, 10, 30, 0, 15, 20), (10, 30))
        self.check((0, 10, 20, 0, 10, 20), (10, 20))
        self.check((0, 10, 20, 0, 30, 40, 0, 21, 29), (10, 40))
        self.check((0, 10, 20, 0, 22, 30), (10, 20), (22, 30))

    def test_parts_hold_in_order(self):
        self.check((1, 10, 20, 0, 15, 30), (15, 30))
        self.check((0, 15, 30, 1, 10, 20), (21, 30))
        self.check((0, 10, 30, 1, 15, 25, 0, 18, 20), (10, 14), (18, 20), (26, 30))
        self.check((0, 10, 30, 1, 20, 20, 0, 20, 20), (10, 30))

    def test_16_parts(self):
        self.check([n for i in range(16) for n in (0, 10 * i, 10 * i)], *[(10 * i, 10 * i) for i in range(16)])

    def test_named_groups(self):
        made = (begin(), group(0, 0, 10, 20, 0, 40, 50), group(1, 0, 15, 45))
        self.assertEqual(last(*made, group(2, 2, 0, 0), runs(2)), [0, 2, 10, 20, 40, 50])
        self.assertEqual(last(*made, group(2, 2, 0, 0, 2, 1, 0), runs(2)), [0, 1, 10, 50])
        self.assertEqual(last(*made, group(2, 2, 0, 0, 3, 1, 0), runs(2)), [0, 2, 10, 14, 46, 50])
        self.assertEqual(last(*made, group(2, 3, 1, 0, 2, 0, 0), runs(2)), [0, 2, 10, 20, 40, 50])
        self.assertEqual(last(*made, group(2, 0, 0, 99, 3, 0, 0), runs(2)), [0, 3, 0, 9, 21, 39, 51, 99])

    def test_a_group_taken_out_leaves_others_be(self):
        made = (begin(), group(0, 0, 10, 20, 1, 12, 14), group(1, 0, 12, 14, 3, 0, 0))
        self.assertEqual(line(*made, runs(1), size(1), member(1, 13), member(1, 10))[-4:],
                         [[0, 1, 12, 14], [3], [1], [0]])

    def test_an_inner_group_replaced_later(self):
        made = (begin(), group(0, 0, 1, 2), group(1, 2, 0, 0, 0, 9, 9), group(2, 0, 0, 9, 3, 1, 0))
        asked = (runs(1), runs(2), size(1), size(2), member(1, 1), member(2, 1))
        self.assertEqual(line(*made, *asked)[-6:], [[0, 2, 1, 2, 9, 9], [0, 2, 0, 0, 3, 8], [3], [7], [1], [0]])
        for between in ((), asked):
            self.assertEqual(line(*made, *between, group(0, 0, 4, 4), *asked)[-6:],
                             [[0, 2, 4, 4, 9, 9], [0, 2, 0, 3, 5, 8], [2], [8], [0], [1]])
            self.assertEqual(line(*made, *between, group(0), *asked)[-6:],
                             [[0, 1, 9, 9], [0, 1, 0, 8], [1], [9], [0], [1]])

    def test_16_groups_deep(self):
        made = [begin(), group(0, 0, 7, 7)]
        made += [group(i, 2, i - 1, 0, 0, 100 * i, 100 * i) for i in range(1, 16)]
        wanted = [n for i in range(16) for n in ((7, 7) if i == 0 else (100 * i, 100 * i))]
        self.assertEqual(line(*made, runs(15), size(15), member(15, 7))[-3:], [[0, 16] + wanted, [16], [1]])
        self.assertEqual(line(*made, group(0), runs(15), member(15, 7))[-2:], [[0, 15] + wanted[2:], [0]])

    def test_many_names_many_deep_are_answered_soon(self):
        made = [begin(), group(0, 0, 7, 7)] + [group(i, *(2, i - 1, 0) * 16) for i in range(1, 16)]
        self.assertEqual(line(*made, runs(15), size(15), member(15, 7))[-3:], [[0, 1, 7, 7], [1], [1]])

    def test_runs_of_a_smaller_group_behind_those_of_a_greater(self):
        made = (begin(), group(3, 0, 3, 3), group(8, 0, 8, 8), group(5, 0, 5, 5))
        self.assertEqual(line(*made, runs(8), runs(3), runs(5), size(8))[-4:],
                         [[0, 1, 8, 8], [0, 1, 3, 3], [0, 1, 5, 5], [1]])

    def test_asking_changes_nothing(self):
        made = (begin(), group(0, 0, 1, 2), rule(0, source=0))
        asked = (runs(0), size(0), member(0, 1), runs(9), size(9), member(9, 1), member(0, -1))
        once = line(*made, *asked)
        self.assertEqual(line(*made, *asked, *asked), once + once[-7:])
        self.assertEqual(last(*made, *asked, nogroup(0)), [-2])


class Refusals(unittest.TestCase):
    def test_no_group(self):
        for number in (LEAST, -1, 0, 2, 15, 16, GREATEST):
            made = (begin(), group(1, 0, 0, 9))
            self.assertEqual(line(*made, runs(number), size(number), member(number, 0))[-3:], [[-1]] * 3)

    def test_member_unless_an_address(self):
        made = (begin(), group(1, 0, 0, LAST_ADDRESS))
        for address in (LEAST, -1, LAST_ADDRESS + 1, GREATEST):
            self.assertEqual(last(*made, member(1, address)), [-2])
        for address in (0, LAST_ADDRESS):
            self.assertEqual(last(*made, member(1, address)), [1])

    def test_no_group_is_told_ahead_of_no_address(self):
        self.assertEqual(last(begin(), member(1, -1)), [-1])

    def test_size_of_all(self):
        self.assertEqual(last(begin(), group(1, 0, 0, LAST_ADDRESS), size(1)), [2 ** 32])


if __name__ == "__main__":
    unittest.main()
