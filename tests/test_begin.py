import unittest

from tests.helper import GREATEST, LEAST, WIDTHS, begin, group, last, line, member, nogroup, norule, rule, runs, size


class Begin(unittest.TestCase):
    def test_most_in_range_answers_0(self):
        for most in (1, 2, 99, 1023, 1024):
            self.assertEqual(line(begin(most), group(0)), [[0], [0]])

    def test_most_out_of_range_is_refused(self):
        for most in (LEAST, -1, 0, 1025, GREATEST):
            self.assertEqual(line(begin(most)), [[-1]])

    def test_each_other_call_ahead_of_begin(self):
        for number in range(1, 18):
            call = [number] + [0] * WIDTHS[number]
            self.assertEqual(line(call), [[-20]], number)

    def test_wrong_numbers_ahead_of_begin(self):
        for number in range(2, 18):
            call = [number] + [LEAST] * WIDTHS[number]
            self.assertEqual(line(call), [[-20]], number)
        self.assertEqual(line(group(99, *range(128))), [[-20]])

    def test_each_other_call_behind_a_refused_begin(self):
        for number in range(1, 18):
            call = [number] + [0] * WIDTHS[number]
            self.assertEqual(line(begin(0), call, begin(1025), call), [[-1], [-20], [-1], [-20]], number)

    def test_calls_ahead_of_begin_do_nothing(self):
        self.assertEqual(line(group(0, 0, 1, 2), rule(0), begin(), runs(0), norule(0)),
                         [[-20], [-20], [0], [-1], [-1]])

    def test_begins_behind_a_refused_begin(self):
        self.assertEqual(line(begin(0), begin(1), group(0), size(0)), [[-1], [0], [0], [0]])

    def test_begin_again_leaves_no_groups(self):
        made = (begin(), group(0, 0, 1, 2), group(1, 2, 0, 0), runs(1), begin(5))
        for call in (runs(0), size(1), member(0, 1), nogroup(0)):
            self.assertEqual(last(*made, call), [-1])
        self.assertEqual(last(*made, group(1, 2, 0, 0)), [-3])

    def test_begin_again_leaves_no_rules(self):
        made = (begin(), group(0), rule(0, source=0), rule(1), begin())
        self.assertEqual(last(*made, norule(0)), [-1])
        self.assertEqual(last(*made, rule(1)), [-1])
        self.assertEqual(line(*made, group(0), nogroup(0))[-2:], [[0], [0]])

    def test_groups_made_anew_are_not_the_old_ones(self):
        self.assertEqual(line(begin(), group(0, 0, 1, 2), runs(0), begin(), group(0, 0, 7, 9), runs(0))[-1],
                         [0, 1, 7, 9])

    def test_refused_begin_leaves_what_there_is(self):
        for most in (0, 1025, LEAST):
            made = (begin(), group(0, 0, 1, 2), rule(0, source=0), begin(most))
            self.assertEqual(last(*made), [-1])
            self.assertEqual(last(*made, runs(0)), [0, 1, 1, 2])
            self.assertEqual(last(*made, nogroup(0)), [-2])
            self.assertEqual(last(*made, norule(0)), [0])


if __name__ == "__main__":
    unittest.main()
