"""The interface: one flat list in, one flat list out, nothing changed and nothing kept."""

import unittest

from stationsignals.stations import answers

LINE = [0, 1, 0, 0, 1, 1, 1, 0, 0, 4, 2, 5, 1, 6, 1, 4, 1, 7, 0, 1, 1, 1, 8, 0, 1, 1, 1, 9, 0, 1, 1, 1, 2, 5, 2, 0]
TOLD = [1, 0, 1, 0, 1, 1, 5, 0, 0, 0, 2, 1, 5, 0, 5, 1, 3, 1, 3, 0, 2, 1, 5, 0, 4, 1, 2, 1, 3, 0, 2, 1, 1, -2, 1, 1]


class Watched(list):
    """A list that can't be changed: whoever tries fails."""

    def refuse(self, *given, **named):
        raise AssertionError("what is handed in is changed")

    append = extend = insert = pop = remove = clear = sort = reverse = refuse
    __setitem__ = __delitem__ = __iadd__ = __imul__ = refuse


class InterfaceTest(unittest.TestCase):
    def test_answers_stand_one_behind_another_with_their_counts(self):
        self.assertEqual(answers(LINE), TOLD)

    def test_what_is_handed_in_is_as_it_was(self):
        calls = list(LINE)
        answers(calls)
        self.assertEqual(calls, LINE)

    def test_what_is_handed_in_is_not_changed_for_a_while_either(self):
        self.assertEqual(answers(Watched(LINE)), TOLD)

    def test_two_lines_know_nothing_of_each_other(self):
        self.assertEqual(answers(LINE), TOLD)
        self.assertEqual(answers([5, 0, 1, 0, 0, 1, 1]), [1, -11, 1, -11])
        self.assertEqual(answers([0, 5, 0]), [1, 0, 1, -2])
        self.assertEqual(answers(LINE), TOLD)

    def test_each_time_another_list_is_given_back(self):
        first = answers(LINE)
        first.append(7)
        self.assertEqual(answers(LINE), TOLD)

    def test_a_line_of_256_calls(self):
        self.assertEqual(answers([0, 1, 3, 4, 5, 6] + [5, 0] * 254), [1, 0, 1, 0] + [5, 0, 3, 4, 5, 6] * 254)
        self.assertEqual(answers(([15, 0, 1, 12] + [65535] * 12) * 256), [1, -11] * 256)

    def test_numbers_are_whole_numbers_and_never_true_or_false(self):
        for number in answers(LINE):
            self.assertIs(type(number), int)

    def test_the_greatest_and_least_arguments_of_each_kind(self):
        least, greatest, unsigned = -2147483648, 2147483647, 4294967295
        begun = [0, 1, 0, 0, 1, 1]
        for call, refusal in (
                ([1, least, least, 0, 0], -22), ([1, greatest, greatest, unsigned, unsigned], -22),
                ([2, unsigned], -2), ([3, unsigned, unsigned, unsigned], -2), ([3, 0, unsigned, unsigned], -22),
                ([3, 0, 0, 0], -22), ([4, unsigned, least, greatest], -2), ([4, 0, least, greatest], -22),
                ([4, 0, greatest, least], -22), ([5, unsigned], -2), ([6, unsigned, least, 0], -2),
                ([6, 0, least, unsigned], -22), ([6, 0, greatest, 0], -22), ([7, unsigned, 0, least, 0], -2),
                ([7, 0, unsigned, greatest, 0], -2), ([8, unsigned, unsigned, least, unsigned], -2),
                ([8, 0, 0, least, unsigned], -22), ([9, 0, unsigned, 0, 1], -2), ([9, 0, 0, greatest, unsigned], -22)):
            with self.subTest(call=call):
                told = answers(begun + call + [5, 0])
                self.assertEqual(told, [1, 0, 1, 0, 1, refusal, 5, 0, 0, 0, 1, 1])


if __name__ == "__main__":
    unittest.main()
