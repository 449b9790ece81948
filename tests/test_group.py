import unittest

from tests.helper import GREATEST, LAST_ADDRESS, LEAST, begin, group, last, line, member, nogroup, norule, rule, runs


class Group(unittest.TestCase):
    def test_ids_in_range(self):
        for number in (0, 1, 14, 15):
            self.assertEqual(line(begin(), group(number, 0, 3, 4), runs(number)), [[0], [0], [0, 1, 3, 4]])

    def test_ids_out_of_range(self):
        for number in (LEAST, -1, 16, GREATEST):
            self.assertEqual(line(begin(), group(number, 0, 3, 4), runs(number)), [[0], [-1], [-1]])

    def test_how_many_numbers(self):
        for count in range(0, 49, 3):
            self.assertEqual(last(begin(), group(0, *(0, 3, 4) * (count // 3))), [0], count)
        for count in (1, 2, 4, 46, 47):
            self.assertEqual(last(begin(), group(0, *((0, 3, 4) * 16)[:count])), [-2], count)
        for count in (49, 50, 51, 127, 128):
            self.assertEqual(last(begin(), group(0, *((0, 3, 4) * 43)[:count])), [-1], count)

    def test_too_long_is_told_ahead_of_wrong_parts(self):
        self.assertEqual(last(begin(), group(0, 9, *(0, 3, 4) * 16)), [-1])
        self.assertEqual(last(begin(), group(0, *(9,) * 48)), [-2])

    def test_wrong_id_is_told_ahead_of_wrong_parts(self):
        self.assertEqual(last(begin(), group(16, 9, 0, 0)), [-1])
        self.assertEqual(last(begin(), group(-1, 2, 0, 0)), [-1])

    def test_edges_of_ranges(self):
        for form in (0, 1):
            for lo, hi in ((0, 0), (0, LAST_ADDRESS), (LAST_ADDRESS, LAST_ADDRESS), (5, 5), (5, 6)):
                self.assertEqual(last(begin(), group(0, form, lo, hi)), [0])

    def test_wrong_ranges(self):
        wrong = ((-1, 0), (0, LAST_ADDRESS + 1), (LAST_ADDRESS + 1, LAST_ADDRESS + 1), (6, 5), (-2, -1),
                 (LAST_ADDRESS, 0), (LEAST, 0), (0, GREATEST), (LEAST, GREATEST))
        for form in (0, 1):
            for lo, hi in wrong:
                self.assertEqual(last(begin(), group(0, form, lo, hi)), [-2], (form, lo, hi))

    def test_wrong_forms(self):
        for form in (LEAST, -1, 4, 5, GREATEST):
            self.assertEqual(last(begin(), group(0), group(1, form, 0, 0)), [-2])

    def test_third_number_of_a_named_group(self):
        for form in (2, 3):
            self.assertEqual(last(begin(), group(0), group(1, form, 0, 0)), [0])
            for third in (LEAST, -1, 1, 7, GREATEST):
                self.assertEqual(last(begin(), group(0), group(1, form, 0, third)), [-2])
                self.assertEqual(last(begin(), group(0), group(1, form, 9, third)), [-2])

    def test_named_group_must_be_there_and_smaller(self):
        for form in (2, 3):
            made = (begin(), group(0), group(2), group(4), group(15))
            for named in (LEAST, -1, 1, 2, 3, 4, 15, 16, GREATEST):
                self.assertEqual(last(*made, group(2, form, named, 0)), [-3], named)
            for named in (0, 2, 4):
                self.assertEqual(last(*made, group(5, form, named, 0)), [0], named)
                self.assertEqual(last(*made, group(15, form, named, 0)), [0], named)

    def test_first_wrong_part_refuses(self):
        made = (begin(), group(0))
        self.assertEqual(last(*made, group(1, 2, 5, 0, 9, 9, 9)), [-3])
        self.assertEqual(last(*made, group(1, 9, 9, 9, 2, 5, 0)), [-2])
        self.assertEqual(last(*made, group(1, 0, 1, 2, 2, 0, 0, 3, 1, 0, 0)), [-3])
        self.assertEqual(last(*made, group(1, 2, 5, 0, 0)), [-3])
        self.assertEqual(last(*made, group(1, 0, 1, 2, 2, 5)), [-2])
        self.assertEqual(last(*made, group(1, *(0, 1, 2) * 15, 0, 2, 1)), [-2])
        self.assertEqual(last(*made, group(1, *(0, 1, 2) * 15, 2, 1, 0)), [-3])

    def test_refused_group_changes_nothing(self):
        for parts in ((9, 9, 9), (0, 8, 9, 2, 5, 0), (0, 8, 9, 0), (0, 8, 9) * 17):
            made = (begin(), group(1, 0, 1, 2), group(1, *parts))
            self.assertLess(last(*made)[0], 0)
            self.assertEqual(last(*made, runs(1)), [0, 1, 1, 2])
            self.assertEqual(last(begin(), group(1, *parts), runs(1)), [-1])

    def test_new_parts_stand_in_place_of_the_old(self):
        made = (begin(), group(0), group(1, 0, 1, 2, 2, 0, 0), group(1, 0, 8, 9))
        self.assertEqual(last(*made, runs(1)), [0, 1, 8, 9])
        self.assertEqual(last(*made, nogroup(0)), [0])

    def test_a_group_that_others_and_rules_have_may_be_replaced(self):
        made = (begin(), group(0, 0, 1, 2), group(1, 2, 0, 0), rule(0, source=0), group(0, 0, 8, 9))
        self.assertEqual(line(*made, runs(1))[-2:], [[0], [0, 1, 8, 9]])


class Nogroup(unittest.TestCase):
    def test_it_is_gone(self):
        made = (begin(), group(0, 0, 1, 2), group(1), nogroup(0))
        self.assertEqual(last(*made), [0])
        for call in (runs(0), member(0, 1), nogroup(0)):
            self.assertEqual(last(*made, call), [-1])
        self.assertEqual(last(*made, rule(0, source=0)), [-3])
        self.assertEqual(last(*made, group(1, 2, 0, 0)), [-3])
        self.assertEqual(last(*made, runs(1)), [0, 0])

    def test_made_again_it_is_new(self):
        self.assertEqual(last(begin(), group(0, 0, 1, 2), runs(0), nogroup(0), group(0), runs(0)), [0, 0])

    def test_no_group(self):
        for number in (LEAST, -1, 0, 2, 15, 16, GREATEST):
            self.assertEqual(last(begin(), group(1), rule(0), nogroup(number)), [-1])

    def test_a_rule_has_it(self):
        for place in (0, 1, 2):
            for passes in (0, 1):
                for side in ("source", "target"):
                    made = [begin(), group(0), group(1), rule(0), rule(1)]
                    made.append(rule(place, passes, **{side: 1}))
                    self.assertEqual(last(*made, nogroup(1)), [-2])
                    self.assertEqual(last(*made, nogroup(0)), [0])
                    self.assertEqual(last(*made, norule(place), nogroup(1)), [0])

    def test_another_part_has_it(self):
        for form in (2, 3):
            made = (begin(), group(1), group(2), group(9, 0, 2, 2, form, 1, 0, 1, 2, 2))
            self.assertEqual(last(*made, nogroup(1)), [-2])
            self.assertEqual(last(*made, nogroup(2)), [0])
            self.assertEqual(last(*made, nogroup(9), nogroup(1)), [0])
            self.assertEqual(last(*made, group(9), nogroup(1)), [0])

    def test_a_range_is_no_name_of_a_group(self):
        for form in (0, 1):
            self.assertEqual(last(begin(), group(1), group(2, form, 1, 1), nogroup(1)), [0])

    def test_other_numbers_of_a_rule_are_no_groups(self):
        self.assertEqual(last(begin(), group(1), rule(0, 1, -1, -1, 1, 1, 1), rule(1), nogroup(1)), [0])

    def test_a_group_that_names_others_may_go(self):
        self.assertEqual(line(begin(), group(0), group(1, 2, 0, 0), nogroup(1), nogroup(0))[-2:], [[0], [0]])

    def test_refused_it_changes_nothing(self):
        made = (begin(), group(0, 0, 1, 2), group(1, 2, 0, 0), nogroup(0))
        self.assertEqual(last(*made, runs(0)), [0, 1, 1, 2])
        self.assertEqual(last(*made, runs(1)), [0, 1, 1, 2])


if __name__ == "__main__":
    unittest.main()
