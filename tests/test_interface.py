import inspect
import unittest
from unittest import mock

from switchrules.groups import answers
from tests.helper import (
    WIDTHS, apart, ask, begin, blocks, cover, group, inside, line, look, member, move, nogroup, norule, row, rows, rule,
    rules, runs, same, size)

CALLS = [n for call in (
    size(3), begin(99), group(3, 0, 4, 11, 1, 6, 6), group(4), runs(3), runs(4), size(3), member(3, 6), member(3, 7),
    rule(0, source=3), rule(0, source=4), move(0, 1), nogroup(3), norule(0), nogroup(3), member(4, -1), begin(0),
    group(3, 0, 4, 11, 1, 6, 6), rule(0, 1, 3, -1, 17, 0, 1), blocks(3), blocks(4), cover(3, 1, 3), cover(3, 3, 1),
    cover(0, 0, 0), same(3, 4), same(3, 3), inside(3, 4), inside(4, 3), ask(4, 0, 17, 0), ask(0, 0, 17, 0),
    ask(0, 0, 256, 0), rows(), row(1), row(9), look(7, 9, 17, 1), look(6, 9, 17, 1), look(-1, 0, 0, 0), rules(),
    begin(1), rules(), rows(),
) for n in call]


class Interface(unittest.TestCase):
    def test_its_one_argument(self):
        self.assertEqual(list(inspect.signature(answers).parameters), ["calls"])

    def test_how_answers_stand_in_the_list(self):
        self.assertEqual(answers(CALLS), [
            1, -20, 1, 0, 1, 0, 1, 0, 6, 0, 2, 4, 5, 7, 11, 2, 0, 0, 1, 7, 1, 0, 1, 1,
            1, 0, 1, 0, 1, 0, 1, -2, 1, 0, 1, 0, 1, -2, 1, -1,
            1, 0, 1, 0, 8, 0, 3, 4, 1, 7, 0, 8, 2, 2, 0, 0, 6, 0, 2, 1, 0, 2, 1, 2, 0, 0, 1, -1, 1, 0,
            1, 1, 1, 0, 1, 1, 3, 0, 1, 0, 3, 0, 0, -1, 1, -1,
            3, 0, 3, 3, 10, 0, 1, 7, 4294967295, 0, 0, 17, 255, 0, 65534,
            1, -2, 3, 0, 1, 1, 3, 0, 0, -1, 1, -2, 14, 0, 2, 1, 3, -1, 17, 0, 1, 1, 4, -1, -1, 0, 65535, 1, 0,
            2, 0, 0, 3, 0, 0, 0])

    def test_answers_are_whole_numbers_in_a_list(self):
        given = answers(CALLS)
        self.assertIs(type(given), list)
        self.assertEqual({type(number) for number in given}, {int})

    def test_what_is_handed_in_is_not_changed(self):
        handed = list(CALLS)
        answers(handed)
        self.assertEqual(handed, CALLS)

    def test_what_is_handed_in_is_not_touched_for_a_while_either(self):
        class Watched(list):
            def refuse(self, *told):
                raise AssertionError("the list that was handed in is changed")

            __setitem__ = __delitem__ = __iadd__ = __imul__ = refuse
            append = extend = insert = pop = remove = clear = sort = reverse = refuse

        self.assertEqual(answers(Watched(CALLS)), answers(CALLS))

    def test_nothing_is_kept_from_one_time_to_the_next(self):
        first = answers(CALLS)
        self.assertEqual(answers(CALLS), first)
        answers([0, 5] + [1, 0, 0] + [3, 0, 1, 0, 0, -1, 0, 0])
        self.assertEqual(answers([8, 0]), [1, -20])
        self.assertEqual(answers(CALLS), first)

    def test_what_was_given_back_may_be_changed(self):
        first = answers(CALLS)
        wanted = list(first)
        first.clear()
        self.assertEqual(answers(CALLS), wanted)

    def test_it_prints_reads_and_imports_nothing(self):
        wanted = answers(CALLS)
        names = ("print", "input", "open", "__import__")
        with mock.patch.multiple("builtins", **{name: mock.Mock(side_effect=AssertionError) for name in names}):
            given = answers(CALLS)
        self.assertEqual(given, wanted)

    def test_every_call_is_among_those_tried(self):
        seen, place = set(), 0
        while place < len(CALLS):
            seen.add(CALLS[place])
            place += 1 + WIDTHS[CALLS[place]] + (CALLS[place + 2] if CALLS[place] == 1 else 0)
        self.assertEqual(seen, set(range(18)))

    def test_each_call_is_read_to_its_end(self):
        # 17 is a call too, so that a number left over would be answered.
        for number in range(18):
            call = group(17) if number == 1 else [number] + [17] * WIDTHS[number]
            self.assertEqual(len(apart(answers(call + call))), 2, number)
            self.assertEqual(line(begin(), call, rules())[2], [0, 0], number)

    def test_a_list_of_128_numbers_is_read_past(self):
        self.assertEqual(answers([0, 1, 1, 0, 128] + [6] * 128 + [1, 0, 0, 8, 0]), [1, 0, 1, -1, 1, 0, 1, 0])

    def test_a_list_ahead_of_begin_is_read_past(self):
        self.assertEqual(answers([1, 0, 3, 0, 0, 0, 0, 7, 6, 0]), [1, -20, 1, 0, 1, -1])

    def test_400_calls(self):
        self.assertEqual(answers([0, 1] + [1, 0, 0] + [8, 0] * 398), [1, 0] * 400)

    def test_400_calls_of_a_full_table(self):
        made = [begin(1024), group(0, 0, 1, 2 ** 32 - 1), rule(0, 1, 0, 0)]
        told = line(*made, *[look(1, 1), row(1023), rows(), rule(1), norule(1), rows()] * 66)[3:]
        self.assertEqual(told, [[0, 1, 0], [0, 1] + [2 ** 31] * 4 + [0] * 4, [0, 1024, 1024], [0], [0],
                                [0, 1024, 1024]] * 66)

    def test_many_blocks_in_one_line(self):
        parts = [n for i in range(16) for n in (0, i * 2 ** 28 + 1, (i + 1) * 2 ** 28 - 2)]
        told = line(begin(), group(0, *parts), *[blocks(0)] * 25)
        self.assertEqual({tuple(one) for one in told[2:]}, {tuple(told[2])})
        self.assertEqual(told[2][:6], [0, 16 * 54, 1, 0, 2, 1])


if __name__ == "__main__":
    unittest.main()
