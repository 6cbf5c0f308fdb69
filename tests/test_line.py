"""How calls are laid and answered, and that nothing is changed or kept."""

import unittest

from beachkept.beach import answers
from tests.reading import lay

LINE = [
    0, 1000, 10,
    1, 100, 200,
    1, 200, 100,
    2, 150, 60,
    2, 200, 100,
    3, 0, 1,
    3, 1, 1,
    5, 0, 12,
    6, 0, 2,
    7, 5,
    8, 30,
    9, 160, 20,
    4, 0, 1,
    12,
    11,
    14,
    10,
    10,
    13, 0,
    13, 1,
    0, 0, 0,
    14,
    15, 1,
    16, 1,
    16, 2,
    17, 1,
    18, 0,
    19, 1,
    20, 0,
    21, 0,
    22, 0,
    22, 0,
    23, 1001, 10, 10,
    24, 10, 10, 10, 9,
    24, 10, 10, 10, 10,
    25,
    26,
    27,
    27,
    28,
    28,
    28,
    29,
    0, 7, 7,
    29,
    27,
]
TOLD = [
    1, 0,
    1, 0,
    1, -22,
    1, 0,
    1, 1,
    1, 1,
    1, 2,
    1, 12,
    1, 10,
    1, 0,
    1, 30,
    3, 0, 10, 10,
    1, 10,
    2, 10, 1,
    2, 0, 10,
    1, -33,
    1, 10,
    1, -6,
    1, 0,
    1, -2,
    1, -22,
    2, 0, 0,
    1, 0,
    3, 0, 0, 0,
    1, -22,
    2, 0, 0,
    2, 1, 200,
    2, 95, 1,
    4, 0, 100, 200, 1,
    4, 150, 60, 1, 20,
    1, 20,
    1, -17,
    1, 11,
    1, 2190,
    1, -22,
    2, 1, 1,
    4, 12, 0, 12, 1,
    1, 12,
    1, 11,
    1, 1,
    1, 0,
    1, -2,
    6, 30, 1, 2, 5, 13, 0,
    1, 0,
    6, 0, 0, 0, 0, 0, 0,
    1, -2,
]


class Line(unittest.TestCase):
    def test_answers_one_behind_another(self):
        self.assertEqual(answers(LINE), TOLD)

    def test_one_call(self):
        self.assertEqual(answers([0, 1, 1]), [1, 0])
        self.assertEqual(answers([0, 0, 1]), [1, -22])

    def test_what_is_answered_are_whole_numbers_in_a_list(self):
        told = answers(LINE)
        self.assertIs(type(told), list)
        self.assertEqual({type(number) for number in told}, {int})

    def test_the_list_is_the_same_afterwards(self):
        line = list(LINE)
        answers(line)
        self.assertEqual(line, LINE)

    def test_the_list_is_not_written_to_for_a_while_either(self):
        class Locked(list):
            def refuse(self, *args):
                raise AssertionError("written to")

            __setitem__ = __delitem__ = __iadd__ = __imul__ = refuse
            append = extend = insert = pop = remove = clear = sort = reverse = refuse

        self.assertEqual(answers(Locked(LINE)), TOLD)

    def test_the_same_list_twice(self):
        line = list(LINE)
        self.assertEqual(answers(line), answers(line))

    def test_nothing_is_kept(self):
        first = answers(LINE)
        first.clear()
        answers([0, 10, 1, 1, 0, 10, 2, 0, 10, 3, 0, 1, 8, 5])
        self.assertEqual(answers(LINE), TOLD)
        self.assertEqual(answers([0, 10, 1, 14, 8, 1, 13, 0, 3, 0, 1]), [1, 0, 2, 0, 0, 1, 1, 1, -2, 1, -2])

    def test_a_thousand_calls(self):
        line = [("start", 10, 1), ("zone", 0, 10), ("tower", 0, 10)] + [("few",)] * 997
        self.assertEqual(answers(lay(line)), [1, 0, 1, 0, 1, 0] + [2, 0, 0] * 997)


if __name__ == "__main__":
    unittest.main()
