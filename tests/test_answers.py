"""answers(calls): the form of the list, and that nothing is changed or kept."""

import unittest

from carriedover.digits import answers
from lines import HIGHEST, line

MIXED = [
    ("cross", 9), ("begin", 10), ("begin", 2), ("digits", 6), ("prime", 3), ("digits", 6), ("places", 8, 1),
    ("three", 1, 2, 3), ("times", 54), ("times", 0), ("begin", 97), ("carries", 96, 1), ("cross", HIGHEST),
    ("told",), ("without", 100, 4), ("without", 4, 100), ("prime", 2), ("ways", 4, 2), ("ways", 4, HIGHEST),
    ("most", 4), ("like", 6), ("like", 0), ("number_of", 1, 0, 1, 1), ("number_of", 1, 0, 2, 1), ("next", 7), ("told",),
]

MIXED_ANSWERS = [
    1, -11, 1, -22, 1, 2, 4, 3, 0, 1, 1, 1, 2, 3, 2, 0, 2, 3, 2, 0, 1,
    3, 1, 1, 0, 1, 3, 1, -22, 1, 97, 1, 1, 1, -22,
    1, 97, 2, 96, 1, 1, -33, 1, 97, 3, 2, 1, 3, 1, 0,
    1, 2, 1, 9, 1, -33, 1, 13, 1, -22, 2, 1, 3, 1, 2,
]


class Answers(unittest.TestCase):

    def test_each_answer_has_its_count_before_it(self):
        self.assertEqual(answers([0, 5]), [1, 5])
        self.assertEqual(answers([0, 2, 2, 5]), [1, 2, 4, 3, 1, 0, 1])
        self.assertEqual(answers([0, 2, 2, 0]), [1, 2, 1, 0])
        self.assertEqual(answers([0, 7, 6, 6, 1, 6]), [1, 7, 3, 1, 1, 1])
        self.assertEqual(answers([0, 4]), [1, -22])
        self.assertEqual(answers([3, 4]), [1, -11])

    def test_several_calls_in_one_list(self):
        self.assertEqual(answers(line(*MIXED)), MIXED_ANSWERS)

    def test_the_calls_stand_under_their_numbers(self):
        calls = [0, 3, 1, 5, 2, 7, 3, 7, 4, 3, 2, 5, 3, 2, 6, 4, 1, 5, 7, 50]
        self.assertEqual(answers(calls), [1, 3, 1, 3, 3, 2, 2, 1, 1, 3, 1, 1, 2, 1, 0, 3, 1, 1, 0, 1, 2])
        calls = [0, 3, 8, 2, 9, 3, 1, 10, 3, 11, 5, 12, 2, 1, 0, 2, 13, 9, 4, 14]
        self.assertEqual(answers(calls), [1, 3, 2, 1, 1, 3, 2, 1, 2, 1, 1, 1, 7, 1, 59, 2, 5, 2, 1, 3])

    def test_eighty_calls(self):
        self.assertEqual(answers([0, 2] + [4, 1, 1] * 79), [1, 2] + [1, 1] * 79)
        self.assertEqual(answers([14] * 79 + [0, 2]), [1, -11] * 79 + [1, 2])
        self.assertEqual(answers([0, 97] + [12, 96, 96, 96, 96] * 79), [1, 97] + [1, 97 ** 4 - 1] * 79)
        # To tell so long lists apart takes unittest minutes, so they are not handed to it.
        self.assertTrue(answers([0, 97] + [9, 60, 0] * 79) == [1, 97] + ([62, 61] + list(range(61))) * 79)

    def test_the_list_stays_as_it_was(self):
        calls = line(*MIXED)
        before = list(calls)
        answers(calls)
        self.assertEqual(calls, before)

    def test_the_list_is_not_changed_for_a_while_either(self):
        class Watched(list):
            def refuse(self, *arguments):
                raise AssertionError("the list that was handed in is changed")
            append = extend = insert = pop = remove = clear = sort = reverse = refuse
            __setitem__ = __delitem__ = __iadd__ = __imul__ = refuse
        self.assertEqual(answers(Watched(line(*MIXED))), MIXED_ANSWERS)

    def test_the_same_list_twice_is_answered_the_same(self):
        calls = line(*MIXED)
        first = answers(calls)
        kept = list(first)
        second = answers(calls)
        self.assertEqual(second, kept)
        second.append(0)
        self.assertEqual(first, kept)
        self.assertEqual(answers(calls), kept)

    def test_nothing_is_kept_from_one_time_to_the_next(self):
        self.assertEqual(answers([0, 5]), [1, 5])
        self.assertEqual(answers([2, 5]), [1, -11])
        self.assertEqual(answers([1, 5]), [1, -11])

    def test_a_list_of_plain_whole_numbers_is_given_back(self):
        given = answers(line(*MIXED))
        self.assertIs(type(given), list)
        for number in given:
            self.assertIs(type(number), int)


if __name__ == "__main__":
    unittest.main()
