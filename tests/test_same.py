import unittest

from tests.helper import GREATEST, LAST_ADDRESS, LEAST, begin, group, inside, last, line, nogroup, same


class SameAndInside(unittest.TestCase):
    def check(self, first, second, wanted_same, first_in_second, second_in_first):
        made = (begin(), group(2, *first), group(7, *second))
        asked = (same(2, 7), same(7, 2), inside(2, 7), inside(7, 2), same(2, 2), inside(7, 7))
        wanted = [wanted_same, wanted_same, first_in_second, second_in_first, 1, 1]
        self.assertEqual(line(*made, *asked)[3:], [[number] for number in wanted])

    def test_equal_groups_of_different_parts(self):
        self.check((0, 1, 9), (0, 5, 9, 0, 1, 4), 1, 1, 1)
        self.check((0, 1, 9, 1, 4, 5), (0, 6, 9, 0, 1, 3), 1, 1, 1)
        self.check((0, 0, LAST_ADDRESS), (0, 7, LAST_ADDRESS, 0, 0, 6), 1, 1, 1)

    def test_equal_by_a_named_group(self):
        made = (begin(), group(0, 0, 1, 9), group(1, 2, 0, 0), group(2, 0, 0, 9, 1, 0, 0))
        self.assertEqual(line(*made, same(0, 1), same(1, 2), inside(1, 0), inside(0, 2))[4:], [[1]] * 4)

    def test_empty(self):
        self.check((), (), 1, 1, 1)
        self.check((), (0, 3, 9, 1, 3, 9), 1, 1, 1)
        self.check((), (0, 5, 5), 0, 1, 0)
        self.check((), (0, 0, LAST_ADDRESS), 0, 1, 0)

    def test_one_address_more(self):
        self.check((0, 5, 9), (0, 4, 9), 0, 1, 0)
        self.check((0, 5, 9), (0, 5, 10), 0, 1, 0)
        self.check((0, 5, 9, 1, 7, 7), (0, 5, 9), 0, 1, 0)
        self.check((0, 1, LAST_ADDRESS), (0, 0, LAST_ADDRESS), 0, 1, 0)
        self.check((0, 0, LAST_ADDRESS - 1), (0, 0, LAST_ADDRESS), 0, 1, 0)

    def test_as_many_addresses_but_others(self):
        self.check((0, 5, 9), (0, 6, 10), 0, 0, 0)
        self.check((0, 0, 0), (0, LAST_ADDRESS, LAST_ADDRESS), 0, 0, 0)
        self.check((0, 1, 2, 0, 5, 6), (0, 1, 2, 0, 6, 7), 0, 0, 0)

    def test_a_run_over_a_gap(self):
        self.check((0, 5, 9), (0, 0, 6, 0, 8, 20), 0, 0, 0)
        self.check((0, 5, 6, 0, 8, 9), (0, 0, 6, 0, 8, 20), 0, 1, 0)

    def test_a_named_group_replaced_later(self):
        made = (begin(), group(0, 0, 1, 2), group(1, 2, 0, 0), group(2, 0, 1, 2))
        asked = (same(1, 2), inside(1, 2), inside(2, 1))
        self.assertEqual(line(*made, *asked, group(0, 0, 2, 2), *asked)[4:],
                         [[1], [1], [1], [0], [0], [1], [0]])

    def test_each_id_missing(self):
        made = (begin(), group(1, 0, 0, 9), group(2), nogroup(2))
        for number in (LEAST, -1, 0, 2, 15, 16, GREATEST):
            for first, second in ((number, 1), (1, number), (number, number)):
                self.assertEqual(line(*made, same(first, second), inside(first, second))[4:], [[-1]] * 2, number)

    def test_one_number_alone(self):
        self.assertEqual(last(begin(), group(0), same(0, 0)), [1])
        self.assertEqual(last(begin(), group(0), inside(0, 0)), [1])


if __name__ == "__main__":
    unittest.main()
