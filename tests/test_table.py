import unittest

from tests.helper import (
    GREATEST, LAST_ADDRESS, LEAST, ask, begin, group, last, line, look, move, nogroup, norule, row, rows, rule, table)
from tests.test_ask import WRONG_PACKETS

ANY = (0, 0)
# Two raw rows that are not joined.
PORTS_0_TO_2 = rule(0, 1, lo=0, hi=2)


def port(value, mask=65535):
    return (value, mask)


def by_ports(*told):
    """Rules in order, of pass, lo and hi, and for all addresses and kinds."""
    return [begin(1024)] + [rule(place, one[0], lo=one[1], hi=one[2]) for place, one in enumerate(told)]


def port_rows(*told):
    return [(passes, ANY, ANY, ANY, field) for passes, field in told]


class RawRows(unittest.TestCase):
    def test_no_rules(self):
        self.assertEqual(line(begin(), rows(), row(0), look(0, 0))[1:], [[0, 0, 0], [-2], [0, 0, -1]])

    def test_all(self):
        self.assertEqual(table(begin(), rule(0)), (1, [(1, ANY, ANY, ANY, ANY)]))

    def test_a_group_of_all_addresses(self):
        for parts in ((0, 0, LAST_ADDRESS), (0, 7, LAST_ADDRESS, 0, 0, 6)):
            self.assertEqual(table(begin(), group(0, *parts), rule(0, 1, 0, 0)), (1, [(1, ANY, ANY, ANY, ANY)]))

    def test_fields_of_ends(self):
        made = (begin(), group(0, 0, 0, 0), group(1, 0, LAST_ADDRESS, LAST_ADDRESS))
        whole = 2 ** 32 - 1
        self.assertEqual(table(*made, rule(0, 1, 0, 1, 0, 0, 0)),
                         (1, [(1, (0, whole), (whole, whole), (0, 255), (0, 65535))]))
        self.assertEqual(table(*made, rule(0, 1, 1, 0, 255, 65535, 65535)),
                         (1, [(1, (whole, whole), (0, whole), (255, 255), (65535, 65535))]))

    def test_fields_of_blocks(self):
        made = (begin(), group(0, 0, 0, 2 ** 31 - 1), group(1, 0, 2 ** 31, LAST_ADDRESS))
        self.assertEqual(table(*made, rule(0, 1, 0, 1, 6, 32768, 65535)),
                         (1, [(1, (0, 2 ** 31), (2 ** 31, 2 ** 31), (6, 255), (32768, 32768))]))

    def test_order_of_from_to_and_ports(self):
        made = (begin(), group(0, 0, 1, 2), group(1, 0, 7, 8), rule(0, 1, 0, 1, 17, 3, 4))
        whole = 2 ** 32 - 1
        wanted = [(1, (a, whole), (b, whole), (17, 255), port(p)) for a in (1, 2) for b in (7, 8) for p in (3, 4)]
        self.assertEqual(table(*made), (8, wanted))

    def test_runs_rising_and_each_by_itself(self):
        made = (begin(), group(0, 0, 100, 100, 0, 7, 9, 0, 12, 15), rule(0, source=0))
        fields = [(7, 2 ** 32 - 1), (8, 2 ** 32 - 2), (12, 2 ** 32 - 4), (100, 2 ** 32 - 1)]
        self.assertEqual(table(*made), (4, [(1, field, ANY, ANY, ANY) for field in fields]))

    def test_rules_in_order(self):
        self.assertEqual(table(*by_ports((1, 9, 9), (0, 2, 2), (1, 4, 4))),
                         (3, port_rows((1, port(9)), (0, port(2)), (1, port(4)))))

    def test_an_empty_group_gives_no_rows(self):
        empty = ((), (0, 3, 9, 1, 0, LAST_ADDRESS))
        for parts in empty:
            made = (begin(), group(0, *parts), group(1, 0, 5, 5))
            for source, target in ((0, -1), (-1, 0), (0, 0), (0, 1), (1, 0)):
                self.assertEqual(last(*made, rule(0, 1, source, target), rows()), [0, 0, 0])
                self.assertEqual(last(*made, rule(0, 1, source, target), rule(1), rows()), [0, 1, 1])
                self.assertEqual(last(*made, rule(0), rule(1, 1, source, target), rows()), [0, 1, 1])

    def test_an_empty_group_beside_one_of_many_blocks(self):
        made = (begin(1), group(0), group(1, 0, 1, LAST_ADDRESS - 1))
        for source, target in ((0, 1), (1, 0)):
            self.assertEqual(last(*made, rule(0, 1, source, target, -1, 1, 65534), rows()), [0, 0, 0])
        self.assertEqual(last(*made, rule(0, 1, 1, 1, -1, 1, 65534), rows()), [-1])


class TooMany(unittest.TestCase):
    def check(self, count, *made):
        """There are just as many raw rows as told: as the most they aren't too many, one below it they are."""
        asked = (rows(), row(0), row(-1), row(1024), look(0, 0))
        told = line(begin(count), *made, *asked)[1 + len(made):]
        self.assertEqual(told[0][:2], [0, count])
        self.assertNotEqual(told[4], [-1])
        self.assertEqual([told[2], told[3]], [[-2], [-2]])
        if count > 1:
            self.assertEqual(line(begin(count - 1), *made, *asked)[1 + len(made):], [[-1]] * 5)

    def test_just_most_and_one_more(self):
        self.check(1, rule(0))
        self.check(2, rule(0), rule(1))
        self.check(3, group(3, 0, 4, 11, 1, 6, 6), rule(0, source=3))
        self.check(3, group(3, 0, 4, 11, 1, 6, 6), rule(0, target=3))
        self.check(30, rule(0, lo=1, hi=65534))
        self.check(9, group(3, 0, 4, 11, 1, 6, 6), rule(0, 1, 3, 3))
        self.check(270, group(3, 0, 4, 11, 1, 6, 6), rule(0, 1, 3, 3, 17, 1, 65534))
        self.check(32, *[rule(i, i % 2, kind=i) for i in range(32)])

    def test_1024(self):
        made = (group(0, 0, 1, LAST_ADDRESS), rule(0, 1, 0, 0))
        self.check(1024, *made)
        self.assertEqual(last(begin(1024), *made, rule(1), rows()), [-1])
        self.assertEqual(last(begin(1024), *made, rule(0), rows()), [-1])
        self.assertEqual(last(begin(1024), *made, rule(1), norule(1), rows()), [0, 1024, 1024])

    def test_raw_rows_count_also_those_that_are_left_out(self):
        self.check(5, *[rule(0) for i in range(5)])
        self.check(4, *[rule(i, 0, lo=i, hi=i) for i in range(4)])

    def test_far_more_than_most(self):
        parts = [n for i in range(16) for n in (0, i * 2 ** 28 + 1, (i + 1) * 2 ** 28 - 2)]
        made = (begin(1024), group(0, *parts), group(1, *parts), rule(0, 1, 0, 1, -1, 1, 65534))
        self.assertEqual(line(*made, rows(), row(0), look(0, 0))[4:], [[-1]] * 3)
        self.assertEqual(line(*made, *[rule(i, 1, 0, 1, -1, 1, 65534) for i in range(31)], rows())[-1], [-1])
        self.assertEqual(line(*made, rule(0), look(0, 0), norule(1), look(0, 0))[5::2], [[-1], [0, 1, 0]])

    def test_asking_rules_goes_on(self):
        made = (begin(1), rule(0), rule(1))
        self.assertEqual(line(*made, ask(0, 0), rows(), ask(0, 0))[3:], [[0, 1, 0], [-1], [0, 1, 0]])

    def test_begin_again_with_another_most(self):
        made = (begin(1), PORTS_0_TO_2, rows(), begin(2), rows(), PORTS_0_TO_2, rows(), begin(1025), rows(),
                begin(1), PORTS_0_TO_2, rows())
        self.assertEqual(line(*made)[2:],
                         [[-1], [0], [0, 0, 0], [0], [0, 2, 2], [-1], [0, 2, 2], [0], [0], [-1]])

    def test_order_of_refusals(self):
        made = (begin(1), PORTS_0_TO_2)
        for place in (LEAST, -1, 0, 2, GREATEST):
            self.assertEqual(last(*made, row(place)), [-1])
        for packet in WRONG_PACKETS:
            self.assertEqual(last(*made, look(*packet)), [-2], packet)


class Thin(unittest.TestCase):
    def test_left_out_for_one_before(self):
        self.assertEqual(table(*by_ports((1, 0, 7), (1, 2, 2))), (2, port_rows((1, port(0, 65528)))))
        self.assertEqual(table(*by_ports((1, 0, 65535), (1, 0, 65535))), (2, port_rows((1, ANY))))

    def test_not_left_out_for_one_behind(self):
        self.assertEqual(table(*by_ports((1, 2, 2), (1, 0, 7))), (2, port_rows((1, port(2)), (1, port(0, 65528)))))

    def test_whether_it_lets_pass_is_not_asked(self):
        self.assertEqual(table(*by_ports((0, 0, 7), (1, 2, 2), (1, 9, 9))),
                         (3, port_rows((0, port(0, 65528)), (1, port(9)))))
        self.assertEqual(table(*by_ports((1, 0, 7), (0, 2, 2), (1, 10, 10))),
                         (3, port_rows((1, port(0, 65528)), (1, port(10)))))

    def test_one_that_is_covered_by_a_row_far_before(self):
        self.assertEqual(table(*by_ports((1, 0, 7), (0, 9, 9), (1, 18, 18), (0, 7, 7), (1, 36, 36))),
                         (5, port_rows((1, port(0, 65528)), (0, port(9)), (1, port(18)), (1, port(36)))))

    def test_not_covered_by_two_together(self):
        self.assertEqual(table(*by_ports((1, 0, 0), (0, 1, 1), (1, 0, 1))),
                         (3, port_rows((1, port(0)), (0, port(1)), (1, port(0, 65534)))))

    def test_the_value_must_be_the_same_under_the_mask(self):
        self.assertEqual(table(*by_ports((1, 8, 15), (1, 3, 3))), (2, port_rows((1, port(8, 65528)), (1, port(3)))))

    def test_each_field_must_cover(self):
        wide = [group(0, 0, 0, 3), group(1, 0, 8, 11)]
        narrow = [group(2, 0, 1, 1), group(3, 0, 9, 9), group(4, 0, 0, 7), group(5, 0, 8, 15)]
        made = [begin()] + wide + narrow + [rule(0, 1, 0, 1, 17, 4, 7)]
        for inner in ((2, 3, 17, 5, 5), (0, 3, 17, 4, 7), (2, 1, 17, 6, 7), (0, 1, 17, 4, 7)):
            self.assertEqual(last(*made, rule(1, 0, *inner), rule(2), rows()), [0, 3, 2], inner)
        for other in ((4, 3, 17, 5, 5), (-1, 3, 17, 5, 5), (3, 3, 17, 5, 5), (2, 5, 17, 5, 5), (2, -1, 17, 5, 5),
                      (2, 2, 17, 5, 5), (2, 3, -1, 5, 5), (2, 3, 16, 5, 5), (2, 3, 17, 0, 7), (2, 3, 17, 8, 8)):
            self.assertEqual(last(*made, rule(1, 0, *other), rule(2), rows()), [0, 3, 3], other)


class Join(unittest.TestCase):
    def test_in_each_field(self):
        made = (begin(), group(0, 0, 8, 8), group(1, 0, 10, 10))
        joined = (8, 2 ** 32 - 3)
        self.assertEqual(table(*made, rule(0, source=0), rule(1, source=1)), (2, [(1, joined, ANY, ANY, ANY)]))
        self.assertEqual(table(*made, rule(0, target=1), rule(1, target=0)), (2, [(1, ANY, joined, ANY, ANY)]))
        self.assertEqual(table(*made, rule(0, kind=17), rule(1, kind=25)), (2, [(1, ANY, ANY, (17, 247), ANY)]))
        self.assertEqual(table(*made, rule(0, lo=5, hi=5), rule(1, lo=4, hi=4)), (2, [(1, ANY, ANY, ANY, (4, 65534))]))

    def test_at_the_highest_bits(self):
        made = (begin(), group(0, 0, 5, 5), group(1, 0, 2 ** 31 + 5, 2 ** 31 + 5))
        joined = (5, 2 ** 31 - 1)
        self.assertEqual(table(*made, rule(0, source=0), rule(1, source=1)), (2, [(1, joined, ANY, ANY, ANY)]))
        self.assertEqual(table(*made, rule(0, target=0), rule(1, target=1)), (2, [(1, ANY, joined, ANY, ANY)]))
        self.assertEqual(table(*made, rule(0, kind=3), rule(1, kind=131)), (2, [(1, ANY, ANY, (3, 127), ANY)]))
        self.assertEqual(table(*made, rule(0, lo=9, hi=9), rule(1, lo=32777, hi=32777)),
                         (2, [(1, ANY, ANY, ANY, (9, 32767))]))

    def test_halves_become_all(self):
        self.assertEqual(table(*by_ports((1, 0, 32767), (1, 32768, 65535))), (2, port_rows((1, ANY))))

    def test_rows_of_one_rule(self):
        self.assertEqual(table(*by_ports((1, 1, 2), (1, 3, 3))), (3, port_rows((1, port(1)), (1, port(2, 65534)))))
        self.assertEqual(table(begin(), group(0, 0, 0, 0, 0, 2, 2), rule(0, source=0)),
                         (2, [(1, (0, 2 ** 32 - 3), ANY, ANY, ANY)]))

    def test_joined_with_a_third(self):
        self.assertEqual(table(*by_ports((1, 0, 0), (1, 1, 1), (1, 2, 3))), (3, port_rows((1, port(0, 65532)))))
        self.assertEqual(table(*by_ports((1, 2, 3), (1, 0, 0), (1, 1, 1))), (3, port_rows((1, port(0, 65532)))))
        self.assertEqual(table(*by_ports(*[(1, i, i) for i in range(32)])), (32, port_rows((1, port(0, 65504)))))

    def test_bits_that_are_not_neighbours(self):
        self.assertEqual(table(*by_ports((1, 0, 0), (1, 4, 4), (1, 1, 1), (1, 5, 5))),
                         (4, port_rows((1, port(0, 65530)))))

    def test_the_first_two_first(self):
        self.assertEqual(table(*by_ports((1, 1, 1), (1, 0, 0), (1, 2, 2))),
                         (3, port_rows((1, port(0, 65534)), (1, port(2)))))

    def test_what_was_joined_with_the_one_before_first(self):
        self.assertEqual(table(*by_ports((1, 4, 5), (1, 0, 0), (1, 1, 1), (1, 2, 3))),
                         (4, port_rows((1, port(0, 65530)), (1, port(2, 65534)))))
        self.assertEqual(table(*by_ports((1, 0, 1), (1, 2, 2), (1, 3, 3), (1, 7, 7))),
                         (4, port_rows((1, port(0, 65532)), (1, port(7)))))

    def test_rows_that_do_not_pass_are_joined_too(self):
        self.assertEqual(table(*by_ports((0, 0, 0), (0, 1, 1), (1, 9, 9))),
                         (3, port_rows((0, port(0, 65534)), (1, port(9)))))

    def test_one_passes_and_one_does_not(self):
        self.assertEqual(table(*by_ports((0, 0, 0), (1, 1, 1))), (2, port_rows((0, port(0)), (1, port(1)))))
        self.assertEqual(table(*by_ports((1, 0, 0), (0, 1, 1), (1, 9, 9))),
                         (3, port_rows((1, port(0)), (0, port(1)), (1, port(9)))))

    def test_not_with_one_between(self):
        self.assertEqual(table(*by_ports((1, 0, 0), (1, 6, 6), (1, 1, 1))),
                         (3, port_rows((1, port(0)), (1, port(6)), (1, port(1)))))

    def test_not_when_two_bits_differ(self):
        self.assertEqual(table(*by_ports((1, 1, 1), (1, 2, 2))), (2, port_rows((1, port(1)), (1, port(2)))))
        self.assertEqual(last(begin(), rule(0, kind=0, lo=0, hi=0), rule(1, kind=1, lo=1, hi=1), rows()), [0, 2, 2])
        made = (begin(), group(0, 0, 0, 0), group(1, 0, 1, 1))
        self.assertEqual(last(*made, rule(0, 1, 0, 0), rule(1, 1, 1, 1), rows()), [0, 2, 2])

    def test_not_when_masks_differ(self):
        self.assertEqual(table(*by_ports((1, 1, 1), (1, 2, 3))), (2, port_rows((1, port(1)), (1, port(2, 65534)))))
        self.assertEqual(table(*by_ports((1, 0, 0), (1, 2, 3))), (2, port_rows((1, port(0)), (1, port(2, 65534)))))
        self.assertEqual(last(begin(), rule(0, kind=0, lo=0, hi=0), rule(1, lo=1, hi=1), rows()), [0, 2, 2])
        self.assertEqual(table(*by_ports((1, 0, 0), (1, 0, 1))), (2, port_rows((1, port(0)), (1, port(0, 65534)))))

    def test_not_when_no_bit_differs(self):
        # Ports 0 and 1 become 0 to 1, the same row as the third; it's the third that is joined with 2 to 3.
        self.assertEqual(table(*by_ports((1, 0, 0), (1, 1, 1), (1, 0, 1), (1, 2, 3))),
                         (4, port_rows((1, port(0, 65534)), (1, port(0, 65532)))))
        self.assertEqual(table(*by_ports((1, 0, 0), (1, 1, 1), (1, 0, 1))), (3, port_rows((1, port(0, 65534)))))

    def test_not_joined_across_what_only_the_second_thinning_leaves_out(self):
        # Ports 0 and 1 become 0 to 1; then kind 17 of it is left out; 2 to 3 is behind it till then.
        made = (begin(), rule(0, lo=0, hi=0), rule(1, lo=1, hi=1), rule(2, kind=17, lo=0, hi=1), rule(3, lo=2, hi=3))
        self.assertEqual(table(*made), (4, port_rows((1, port(0, 65534)), (1, port(2, 65534)))))

    def test_joined_across_what_the_first_thinning_leaves_out(self):
        made = (begin(), rule(0, lo=0, hi=1), rule(1, 0, kind=17, lo=0, hi=1), rule(2, lo=2, hi=3))
        self.assertEqual(table(*made), (3, port_rows((1, port(0, 65532)))))


class ThinAgain(unittest.TestCase):
    def test_left_out_only_when_joined(self):
        for passes in (0, 1):
            made = (begin(), rule(0, lo=0, hi=0), rule(1, lo=1, hi=1), rule(2, passes, kind=17, lo=0, hi=1))
            self.assertEqual(table(*made), (3, port_rows((1, port(0, 65534)))))
            self.assertEqual(table(*made, rule(3, kind=9)),
                             (4, port_rows((1, port(0, 65534))) + [(1, ANY, ANY, (9, 255), ANY)]))

    def test_a_joined_row_left_out_for_another(self):
        made = (begin(), rule(0, lo=0, hi=0), rule(1, lo=1, hi=1), rule(2, 0, kind=4, lo=0, hi=1),
                rule(3, 0, kind=5, lo=0, hi=1), rule(4, kind=9))
        self.assertEqual(last(*made, rows()), [0, 5, 2])


class Trim(unittest.TestCase):
    def test_rows_at_the_end_that_do_not_pass(self):
        self.assertEqual(table(*by_ports((1, 0, 0), (0, 9, 9))), (2, port_rows((1, port(0)))))
        self.assertEqual(table(*by_ports((1, 0, 0), (0, 9, 9), (0, 18, 18), (0, 36, 36))), (4, port_rows((1, port(0)))))

    def test_all_of_them(self):
        self.assertEqual(table(*by_ports((0, 0, 65535))), (1, []))
        self.assertEqual(table(*by_ports((0, 9, 9), (0, 18, 18))), (2, []))
        self.assertEqual(line(*by_ports((0, 9, 9)), row(0), look(0, 0, 0, 9))[2:], [[-2], [0, 0, -1]])

    def test_not_those_ahead_of_one_that_passes(self):
        self.assertEqual(table(*by_ports((0, 9, 9), (1, 18, 18), (0, 36, 36))),
                         (3, port_rows((0, port(9)), (1, port(18)))))

    def test_behind_one_that_is_left_out(self):
        self.assertEqual(table(*by_ports((1, 0, 7), (0, 9, 9), (1, 3, 3))), (3, port_rows((1, port(0, 65528)))))


class Row(unittest.TestCase):
    def test_places(self):
        made = by_ports((1, 1, 1), (0, 2, 2), (1, 4, 4), (0, 8, 8))
        for place, (passes, value) in enumerate(((1, 1), (0, 2), (1, 4))):
            self.assertEqual(last(*made, row(place)), [0, passes, 0, 0, 0, 0, 0, 0, value, 65535])
        for place in (LEAST, -3, -1, 3, 4, GREATEST):
            self.assertEqual(last(*made, row(place)), [-2])

    def test_fields_in_order(self):
        made = (begin(), group(1, 0, 1, 1), group(2, 0, 2, 2), rule(0, 1, 1, 2, 3, 4, 4))
        self.assertEqual(last(*made, row(0)), [0, 1, 1, 2 ** 32 - 1, 2, 2 ** 32 - 1, 3, 255, 4, 65535])


class Look(unittest.TestCase):
    def test_the_first_row_that_it_fits(self):
        made = by_ports((1, 1, 1), (0, 2, 2), (1, 0, 7), (1, 9, 9))
        for number, wanted in ((1, [0, 1, 0]), (2, [0, 0, 1]), (0, [0, 1, 2]), (7, [0, 1, 2]), (8, [0, 0, -1]),
                               (9, [0, 1, 3]), (65535, [0, 0, -1])):
            self.assertEqual(last(*made, look(5, 6, 7, number)), wanted)

    def test_each_of_four_must_fit(self):
        made = (begin(), group(0, 0, 5, 5), group(1, 0, 6, 6), rule(0, 1, 0, 1, 17, 80, 80))
        self.assertEqual(last(*made, look(5, 6, 17, 80)), [0, 1, 0])
        for packet in ((4, 6, 17, 80), (5, 5, 17, 80), (5, 6, 16, 80), (5, 6, 17, 81), (6, 5, 17, 80)):
            self.assertEqual(last(*made, look(*packet)), [0, 0, -1])

    def test_ends(self):
        for packet in ((0, 0, 0, 0), (LAST_ADDRESS, LAST_ADDRESS, 255, 65535), (LAST_ADDRESS, 0, 255, 0)):
            self.assertEqual(last(begin(), rule(0), look(*packet)), [0, 1, 0])
        made = (begin(), group(0, 0, LAST_ADDRESS, LAST_ADDRESS), rule(0, 1, 0, 0, 255, 65535, 65535))
        self.assertEqual(last(*made, look(LAST_ADDRESS, LAST_ADDRESS, 255, 65535)), [0, 1, 0])

    def test_unless_a_packet(self):
        for packet in WRONG_PACKETS:
            self.assertEqual(line(begin(), look(*packet), rule(0), look(*packet))[1::2], [[-2], [-2]], packet)

    def test_it_lets_pass_just_what_the_rules_do(self):
        made = [begin(1024), group(0, 0, 1, 6), group(1, 0, 0, 7, 3, 0, 0), group(2, 0, 3, 3, 0, 5, 7)]
        made += [rule(0, 0, 2, 0, -1, 1, 2), rule(1, 1, 0, -1, 1, 0, 5), rule(2, 0, -1, 2, 1, 0, 3),
                 rule(3, 1, 1, 2, -1, 2, 6), rule(4, 1, 2, 2, 0, 0, 7), rule(5, 0), rule(6, 1, 0, 0)]
        packets = [(a, b, k, p) for a in range(9) for b in range(9) for k in range(3) for p in range(9)]
        passed = 0
        while packets:
            some, packets = packets[:150], packets[150:]
            looked = line(*made, *[look(*packet) for packet in some])[len(made):]
            asked = line(*made, *[ask(*packet) for packet in some])[len(made):]
            self.assertEqual([one[:2] for one in looked], [one[:2] for one in asked])
            passed += sum(one[1] for one in asked)
        self.assertGreater(passed, 100)


class ChangedBetween(unittest.TestCase):
    """A table that was asked for is not told again once it's another."""

    def check(self, made, change, before, after):
        asked = (rows(), row(0), look(1, 1, 1, 1))
        told = line(*made, *asked, change, *asked)[len(made):]
        self.assertEqual(told[:3], before)
        self.assertEqual(told[3], [0])
        self.assertEqual(told[4:], after)
        self.assertEqual(line(*made, change, *asked)[len(made) + 1:], after)

    def setUp(self):
        self.some = [[0, 1, 1], [0, 1, 0, 0, 0, 0, 1, 255, 0, 0], [0, 1, 0]]
        self.none = [[0, 0, 0], [-2], [0, 0, -1]]

    def test_a_rule_put_in(self):
        self.check([begin()], rule(0, kind=1), self.none, self.some)
        self.check([begin(1), rule(0, kind=1)], rule(1, kind=2), self.some, [[-1]] * 3)

    def test_a_rule_taken_out(self):
        self.check([begin(), rule(0, kind=1)], norule(0), self.some, self.none)
        self.check([begin(1), rule(0, kind=1), rule(1)], norule(1), [[-1]] * 3, self.some)

    def test_a_rule_moved(self):
        denied = [[0, 2, 0], [-2], [0, 0, -1]]
        self.check([begin(), rule(0, 0), rule(1, kind=1)], move(1, 0), denied, [[0, 2, 1]] + self.some[1:])

    def test_a_group_replaced(self):
        made = [begin(), group(0), group(1, 2, 0, 0)]
        for number in (0, 1):
            for side in ("source", "target"):
                told = made + [rule(0, kind=1, **{side: number})]
                self.check(told, group(0, 0, 0, LAST_ADDRESS), self.none, self.some)
                self.check(told + [group(0, 0, 0, LAST_ADDRESS)], group(0), self.some, self.none)
                self.check(told + [group(number, 0, 0, LAST_ADDRESS)], group(number), self.some, self.none)

    def test_a_group_gone(self):
        self.check([begin(), group(0), rule(0, kind=1)], nogroup(0), self.some, self.some)

    def test_begin(self):
        self.check([begin(), rule(0, kind=1)], begin(), self.some, self.none)

    def test_refused_calls(self):
        made = (begin(), group(0, 0, 0, LAST_ADDRESS), rule(0, 1, 0, -1, 1))
        wrong = (begin(0), group(0, 9), nogroup(0), rule(2), rule(0, 2), norule(1), move(0, 1), row(1), look(-1, 0))
        for call in wrong:
            told = line(*made, call, rows(), row(0), look(1, 1, 1, 1))[3:]
            self.assertLess(told[0][0], 0)
            self.assertEqual(told[1:], self.some)

    def test_asking_changes_nothing(self):
        made = by_ports((1, 0, 0), (1, 1, 1), (0, 3, 3), (1, 0, 7), (0, 2, 2))
        asked = [rows(), row(0), row(1), look(0, 0, 0, 3), ask(0, 0, 0, 3), row(9), look(0, 0, 256, 0)]
        once = line(*made, *asked)[len(made):]
        self.assertEqual(line(*made, *asked * 5)[len(made):], once * 5)


if __name__ == "__main__":
    unittest.main()
