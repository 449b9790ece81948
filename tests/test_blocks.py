import unittest

from tests.helper import GREATEST, LAST_ADDRESS, LEAST, begin, blocks, cover, group, last, line, nogroup, runs


def read(bits, lo, hi):
    """The blocks as the document finds them, word by word."""
    found = []
    while lo <= hi:
        free = max(k for k in range(bits + 1) if lo % 2 ** k == 0 and lo + 2 ** k - 1 <= hi)
        found += [lo, free]
        lo += 2 ** free
    return [0, len(found) // 2] + found


class Cover(unittest.TestCase):
    def test_all_ranges_of_few_bits(self):
        for bits in range(1, 6):
            asked = [(bits, lo, hi) for lo in range(2 ** bits) for hi in range(2 ** bits)]
            while asked:
                some, asked = asked[:399], asked[399:]
                self.assertEqual(line(begin(), *[cover(*one) for one in some])[1:], [read(*one) for one in some])

    def test_told_by_hand(self):
        self.assertEqual(last(begin(), cover(4, 4, 5)), [0, 1, 4, 1])
        self.assertEqual(last(begin(), cover(4, 7, 11)), [0, 2, 7, 0, 8, 2])
        self.assertEqual(last(begin(), cover(4, 1, 14)), [0, 6, 1, 0, 2, 1, 4, 2, 8, 2, 12, 1, 14, 0])
        self.assertEqual(last(begin(), cover(4, 3, 3)), [0, 1, 3, 0])
        self.assertEqual(last(begin(), cover(4, 0, 6)), [0, 3, 0, 2, 4, 1, 6, 0])

    def test_the_whole_range_is_one_block(self):
        for bits in range(1, 33):
            self.assertEqual(last(begin(), cover(bits, 0, 2 ** bits - 1)), [0, 1, 0, bits])

    def test_ends_of_the_range(self):
        for bits in range(1, 33):
            top = 2 ** bits - 1
            self.assertEqual(last(begin(), cover(bits, 0, 0)), [0, 1, 0, 0])
            self.assertEqual(last(begin(), cover(bits, top, top)), [0, 1, top, 0])
            for lo, hi in ((1, top), (0, top - 1), (1, top - 1), (top // 2, top), (0, top // 2)):
                self.assertEqual(last(begin(), cover(bits, lo, hi)), read(bits, lo, hi), (bits, lo, hi))

    def test_as_many_blocks_as_can_be(self):
        found = last(begin(), cover(32, 1, LAST_ADDRESS - 1))
        self.assertEqual(found[:8], [0, 62, 1, 0, 2, 1, 4, 2])
        self.assertEqual(found[-4:], [LAST_ADDRESS - 3, 1, LAST_ADDRESS - 1, 0])

    def test_lo_above_hi(self):
        for bits, lo, hi in ((1, 1, 0), (8, 9, 8), (32, LAST_ADDRESS, 0), (32, 1, 0)):
            self.assertEqual(last(begin(), cover(bits, lo, hi)), [0, 0])

    def test_bits_out_of_range(self):
        for bits in (LEAST, -1, 0, 33, 34, 64, GREATEST):
            self.assertEqual(last(begin(), cover(bits, 0, 0)), [-1], bits)

    def test_lo_and_hi_out_of_range(self):
        for bits in (1, 2, 16, 31, 32):
            for wrong in (LEAST, -1, 2 ** bits, 2 ** bits + 1, GREATEST):
                for lo, hi in ((wrong, 0), (0, wrong), (wrong, wrong), (wrong, 2 ** bits - 1), (2 ** bits - 1, wrong)):
                    self.assertEqual(last(begin(), cover(bits, lo, hi)), [-1], (bits, lo, hi))

    def test_it_needs_no_group(self):
        self.assertEqual(line(begin(), cover(2, 0, 3), group(0), cover(2, 0, 3))[1::2], [[0, 1, 0, 2]] * 2)


class Blocks(unittest.TestCase):
    def check(self, parts, *wanted):
        numbers = [number for block in wanted for number in block]
        self.assertEqual(last(begin(), group(5, *parts), blocks(5)), [0, len(wanted)] + numbers)

    def test_empty(self):
        self.check(())
        self.check((0, 3, 9, 1, 0, LAST_ADDRESS))

    def test_all_addresses(self):
        self.check((0, 0, LAST_ADDRESS), (0, 32))
        self.check((0, 100, LAST_ADDRESS, 0, 0, 99), (0, 32))

    def test_ends_of_the_addresses(self):
        self.check((0, 0, 0), (0, 0))
        self.check((0, LAST_ADDRESS, LAST_ADDRESS), (LAST_ADDRESS, 0))
        self.check((0, 0, 2 ** 31 - 1), (0, 31))
        self.check((0, 2 ** 31, LAST_ADDRESS), (2 ** 31, 31))

    def test_each_run_by_itself(self):
        self.check((0, 4, 5, 0, 7, 11), (4, 1), (7, 0), (8, 2))
        self.check((0, 0, 2, 0, 4, 7), (0, 1), (2, 0), (4, 2))
        self.check((0, 8, 15, 0, 64, 79), (8, 3), (64, 4))
        self.check((0, 64, 79, 0, 8, 15), (8, 3), (64, 4))

    def test_parts_that_touch_are_one_run(self):
        self.check((0, 0, 0, 0, 1, 1), (0, 1))
        self.check((0, 0, 3, 0, 4, 7, 0, 8, 15), (0, 4))
        self.check((0, 1, 1, 0, 2, 2), (1, 0), (2, 0))

    def test_blocks_cover_just_the_runs(self):
        made = (begin(), group(1, 0, 3, 900, 1, 77, 300, 0, 100, 131), group(2, 0, 0, 5000, 3, 1, 0))
        for number in (1, 2):
            told = last(*made, runs(number))
            wanted = []
            for i in range(2, len(told), 2):
                wanted += read(32, told[i], told[i + 1])[2:]
            self.assertEqual(last(*made, blocks(number)), [0, len(wanted) // 2] + wanted)

    def test_a_named_group_replaced_later(self):
        made = (begin(), group(0, 0, 0, 3), group(1, 2, 0, 0), blocks(1), group(0, 0, 6, 7), blocks(1))
        self.assertEqual(line(*made)[3::2], [[0, 1, 0, 2], [0, 1, 6, 1]])

    def test_no_group(self):
        for number in (LEAST, -1, 0, 2, 15, 16, GREATEST):
            self.assertEqual(last(begin(), group(1, 0, 0, 9), blocks(number)), [-1])
        self.assertEqual(last(begin(), group(1), nogroup(1), blocks(1)), [-1])


if __name__ == "__main__":
    unittest.main()
