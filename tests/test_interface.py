import inspect
import unittest

from switchrules.groups import answers
from tests.helper import begin, group, member, move, nogroup, norule, rule, runs, size

CALLS = [n for call in (
    size(3), begin(99), group(3, 0, 4, 11, 1, 6, 6), group(4), runs(3), runs(4), size(3), member(3, 6), member(3, 7),
    rule(0, source=3), rule(0, source=4), move(0, 1), nogroup(3), norule(0), nogroup(3), member(4, -1), begin(0),
) for n in call]


class Interface(unittest.TestCase):
    def test_its_one_argument(self):
        self.assertEqual(list(inspect.signature(answers).parameters), ["calls"])

    def test_how_answers_stand_in_the_list(self):
        self.assertEqual(answers(CALLS), [
            1, -20, 1, 0, 1, 0, 1, 0, 6, 0, 2, 4, 5, 7, 11, 2, 0, 0, 1, 7, 1, 0, 1, 1,
            1, 0, 1, 0, 1, 0, 1, -2, 1, 0, 1, 0, 1, -2, 1, -1])

    def test_answers_are_whole_numbers_in_a_list(self):
        given = answers(CALLS)
        self.assertIs(type(given), list)
        self.assertEqual({type(number) for number in given}, {int})

    def test_what_is_handed_in_is_not_changed(self):
        handed = list(CALLS)
        answers(handed)
        self.assertEqual(handed, CALLS)

    def test_what_is_handed_in_is_not_touched_for_a_while_either(self):
        class Watched(list):
            def refuse(self, *told):
                raise AssertionError("the list that was handed in is changed")

            __setitem__ = __delitem__ = __iadd__ = __imul__ = refuse
            append = extend = insert = pop = remove = clear = sort = reverse = refuse

        self.assertEqual(answers(Watched(CALLS)), answers(CALLS))

    def test_nothing_is_kept_from_one_time_to_the_next(self):
        first = answers(CALLS)
        self.assertEqual(answers(CALLS), first)
        answers([0, 5] + [1, 0, 0] + [3, 0, 1, 0, 0, -1, 0, 0])
        self.assertEqual(answers([8, 0]), [1, -20])
        self.assertEqual(answers(CALLS), first)

    def test_what_was_given_back_may_be_changed(self):
        first = answers(CALLS)
        wanted = list(first)
        first.clear()
        self.assertEqual(answers(CALLS), wanted)

    def test_a_list_of_128_numbers_is_read_past(self):
        self.assertEqual(answers([0, 1, 1, 0, 128] + [6] * 128 + [1, 0, 0, 8, 0]), [1, 0, 1, -1, 1, 0, 1, 0])

    def test_a_list_ahead_of_begin_is_read_past(self):
        self.assertEqual(answers([1, 0, 3, 0, 0, 0, 0, 7, 6, 0]), [1, -20, 1, 0, 1, -1])

    def test_400_calls(self):
        self.assertEqual(answers([0, 1] + [1, 0, 0] + [8, 0] * 398), [1, 0] * 400)


if __name__ == "__main__":
    unittest.main()
