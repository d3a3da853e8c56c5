"""The interface: one flat list in, one flat list out, nothing changed and nothing kept."""

import unittest

from stationsignals.stations import answers

LINE = [0, 1, 0, 0, 1, 1, 1, 0, 0, 4, 2, 5, 1, 6, 1, 4, 1, 7, 0, 1, 1, 1, 8, 0, 1, 1, 1, 9, 0, 1, 1, 1, 2, 5, 2, 0]
TOLD = [1, 0, 1, 0, 1, 1, 5, 0, 0, 0, 2, 1, 5, 0, 5, 1, 3, 1, 3, 0, 2, 1, 5, 0, 4, 1, 2, 1, 3, 0, 2, 1, 1, -2, 1, 1]

# Every call once at least, those of the second half with answers and with refusals.
WHOLE = LINE + [
    0, 1, 0, 0, 1, 1, 1, 0, 0, 2, 1, 1, 0, 10, 1, 1,
    10, 0, 2, 5, 11, 0, 2, 5, 12, 0, 3, -5, 13, 0, 1, 4, 1, 14, 0, 2, 15, 1, 1, 2, 0, 1, 16, 1, 1, 3, 0, 1, 1,
    17, 0, 1, 15, 0, 1, 0, 16, 0, 1, 12, 0, 0, 0, 0, 0, 0, 0, 0, 0, 0, 0, 9, 14, 0, 1, 3, 1, 2, 2, 4, 2, 1, 1, 19,
    18, 18, 18, 18, 18, 18, 19]
WHOLE_TOLD = TOLD + [
    1, 0, 1, 0, 1, 1, 1, 2,
    3, 0, 7, 1, 3, 0, -3, 1, 5, 2, 3, 1, 5, 1, 5, 1, 5, 1, 3, 1, 1, -33, 3, 0, 2, 1, 3, 0, 4, 1,
    3, 0, 3, 5, 1, -22, 1, -2, 5, 0, 0, 1, 0, 1, 1, 0, 1, 0, 2, 3, 5,
    1, 4, 1, 3, 1, 2, 1, 1, 1, 0, 1, -6, 2, 0, 0]


class Watched(list):
    """A list that can't be changed: whoever tries fails."""

    def refuse(self, *given, **named):
        raise AssertionError("what is handed in is changed")

    append = extend = insert = pop = remove = clear = sort = reverse = refuse
    __setitem__ = __delitem__ = __iadd__ = __imul__ = refuse


class InterfaceTest(unittest.TestCase):
    def test_answers_stand_one_behind_another_with_their_counts(self):
        self.assertEqual(answers(LINE), TOLD)
        self.assertEqual(answers(WHOLE), WHOLE_TOLD)

    def test_what_is_handed_in_is_as_it_was(self):
        calls = list(WHOLE)
        answers(calls)
        self.assertEqual(calls, WHOLE)

    def test_what_is_handed_in_is_not_changed_for_a_while_either(self):
        self.assertEqual(answers(Watched(WHOLE)), WHOLE_TOLD)

    def test_ahead_of_a_begin_every_call_is_passed_over_at_its_length(self):
        for call in (
                [1, 0, 0, 0, 0], [2, 0], [3, 0, 0, 0], [4, 0, 0, 0], [5, 0], [6, 0, 0, 0], [7, 0, 0, 0, 0],
                [8, 0, 0, 0, 0], [9, 0, 0, 0, 0], [10, 0, 0, 0], [11, 0, 0, 0], [12, 0, 0, 0], [13, 0, 0, 0, 0],
                [14, 0, 0], [17, 0, 0], [18], [19]):
            with self.subTest(call=call):
                self.assertEqual(answers(call + [0, 19]), [1, -11, 1, 0, 2, 0, 0])
        for number in (15, 16):
            for count in range(13):
                row = [number, 0, 0, count] + [0] * count
                self.assertEqual(answers(row + [0, 19]), [1, -11, 1, 0, 2, 0, 0], row)

    def test_behind_a_begin_a_refused_row_is_passed_over_at_its_length(self):
        for number in (15, 16):
            for count in range(13):
                row = [number, 0, 1, count] + [18] * count
                self.assertEqual(answers([0] + row + [19]), [1, 0, 1, -2 if count else -22, 2, 0, 0], row)

    def test_how_many_numbers_each_call_answers(self):
        begun = [0, 1, 0, 0, 1, 1, 1, 0, 0, 2, 1]
        for count, calls in (
                (1, ([0], [1, 0, 0, 1, 1], [2, 0], [3, 0, 1, 1], [4, 0, 0, 0], [18])), (2, ([19],)),
                (3, ([7, 0, 1, 0, 1], [9, 0, 1, 0, 1], [10, 0, 0, 0], [11, 0, 0, 0], [15, 0, 1, 2, 0, 1],
                     [16, 0, 1, 2, 0, 1], [17, 0, 1])),
                (5, ([5, 0], [6, 0, 0, 1], [8, 0, 1, 0, 1], [12, 0, 0, 0], [13, 0, 1, 0, 1], [14, 0, 1]))):
            for call in calls:
                told = answers(begun + call)
                self.assertEqual(told[:6], [1, 0, 1, 0, 1, 1])
                self.assertEqual((told[6], len(told)), (count, 7 + count), call)
                self.assertGreaterEqual(told[7], 0, call)

    def test_two_lines_know_nothing_of_each_other(self):
        self.assertEqual(answers(LINE), TOLD)
        self.assertEqual(answers([5, 0, 1, 0, 0, 1, 1]), [1, -11, 1, -11])
        self.assertEqual(answers([0, 5, 0]), [1, 0, 1, -2])
        self.assertEqual(answers([18, 19]), [1, -11, 1, -11])
        self.assertEqual(answers([0, 18, 19]), [1, 0, 1, -6, 2, 0, 0])
        self.assertEqual(answers(LINE), TOLD)

    def test_each_time_another_list_is_given_back(self):
        first = answers(LINE)
        first.append(7)
        self.assertEqual(answers(LINE), TOLD)

    def test_a_line_of_256_calls(self):
        self.assertEqual(answers([0, 1, 3, 4, 5, 6] + [5, 0] * 254), [1, 0, 1, 0] + [5, 0, 3, 4, 5, 6] * 254)
        self.assertEqual(answers(([15, 0, 1, 12] + [65535] * 12) * 256), [1, -11] * 256)
        six = [0] + [1, 0, 0, 1, 1] * 6
        self.assertEqual(
            answers(six + [16, 3, 6, 6, 0, 1, 2, 3, 4, 5] * 249)[14:], [3, 0, 1, 2] * 249)
        self.assertEqual(answers(six + ([4, 0, 0, 1] + [18]) * 124)[14:], [1, 0, 1, 6] * 124)

    def test_numbers_are_whole_numbers_and_never_true_or_false(self):
        for number in answers(WHOLE):
            self.assertIs(type(number), int)

    def test_the_greatest_and_least_arguments_of_each_kind(self):
        least, greatest, unsigned = -2147483648, 2147483647, 4294967295
        begun = [0, 1, 0, 0, 1, 1]
        for call, refusal in (
                ([1, least, least, 0, 0], -22), ([1, greatest, greatest, unsigned, unsigned], -22),
                ([2, unsigned], -2), ([3, unsigned, unsigned, unsigned], -2), ([3, 0, unsigned, unsigned], -22),
                ([3, 0, 0, 0], -22), ([4, unsigned, least, greatest], -2), ([4, 0, least, greatest], -22),
                ([4, 0, greatest, least], -22), ([5, unsigned], -2), ([6, unsigned, least, 0], -2),
                ([6, 0, least, unsigned], -22), ([6, 0, greatest, 0], -22), ([7, unsigned, 0, least, 0], -2),
                ([7, 0, unsigned, greatest, 0], -2), ([8, unsigned, unsigned, least, unsigned], -2),
                ([8, 0, 0, least, unsigned], -22), ([9, 0, unsigned, 0, 1], -2), ([9, 0, 0, greatest, unsigned], -22),
                ([10, unsigned, least, greatest], -2), ([10, 0, least, greatest], -22), ([10, 0, greatest, 0], -22),
                ([11, unsigned, greatest, least], -2), ([11, 0, greatest, least], -22), ([11, 0, 0, least], -22),
                ([12, unsigned, least, least], -2), ([12, 0, greatest, greatest], -22), ([12, 0, 0, greatest], -22),
                ([13, unsigned, 0, least, 0], -2), ([13, 0, unsigned, greatest, unsigned], -2),
                ([13, 0, 0, least, unsigned], -22), ([13, 0, 0, greatest, 0], -22), ([14, unsigned, unsigned], -2),
                ([14, 0, unsigned], -2), ([14, 0, 0], -22), ([15, least, 0, 0], -22),
                ([15, greatest, unsigned, 12] + [65535] * 12, -2), ([15, greatest, unsigned, 12] + [0] * 12, -22),
                ([16, least, 0, 0], -22), ([16, greatest, unsigned, 12] + [65535] * 12, -2),
                ([16, greatest, unsigned, 2, 0, 0], -22), ([17, unsigned, 0], -2), ([17, 0, unsigned], -2),
                ([17, 0, 0], -22)):
            with self.subTest(call=call):
                told = answers(begun + call + [5, 0])
                self.assertEqual(told, [1, 0, 1, 0, 1, refusal, 5, 0, 0, 0, 1, 1])


if __name__ == "__main__":
    unittest.main()
