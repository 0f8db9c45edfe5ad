import unittest

from creammixes import vats
from creammixes.vats import answers

LINE = [
    0, 10,
    1, 100, 200, 300, 7,
    2, 0, 20,
    3,
    3,
    4, 6, 0, 100, 0, 600, 0, 300,
    4, 2, 5, 5,
    4, 0,
    5, 0, 0, 4,
    6, 0, 1, 3,
    7, 1, 2,
    8, 0, 0,
    9, 0,
    9, 5,
]

TOLD = [
    1, 0,
    1, 0,
    1, 20,
    1, 0,
    1, 1,
    1, 0,
    1, -22,
    1, -22,
    5, 4, 400, 800, 1200, 28,
    5, 3, 300, 600, 900, 21,
    5, 2, 200, 400, 600, 14,
    1, 0,
    2, 1, 0,
    1, -2,
]


class Interface(unittest.TestCase):
    def test_calls_and_answers_one_behind_another(self):
        self.assertEqual(answers(LINE), TOLD)

    def test_gives_back_a_list_of_whole_numbers(self):
        told = answers(LINE)
        self.assertIs(type(told), list)
        for number in told:
            self.assertIs(type(number), int)

    def test_fits_gives_a_whole_number_not_a_truth(self):
        for number in answers(LINE[:-2] + [8, 0, 0, 8, 1, 0, 9, 1]):
            self.assertIs(type(number), int)

    def test_what_is_handed_in_is_not_changed(self):
        handed = list(LINE)
        answers(handed)
        self.assertEqual(handed, LINE)

    def test_only_read_while_it_works(self):
        class OnlyRead(list):
            def changed(self, *given):
                raise AssertionError("the list handed in is changed")

            __setitem__ = __delitem__ = __iadd__ = __imul__ = changed
            append = extend = insert = pop = remove = reverse = sort = clear = changed

        self.assertEqual(answers(OnlyRead(LINE)), TOLD)

    def test_the_same_list_again(self):
        handed = list(LINE)
        self.assertEqual(answers(handed), TOLD)
        self.assertEqual(answers(handed), TOLD)

    def test_nothing_is_kept(self):
        answers(LINE)
        self.assertEqual(answers([3]), [1, -11])
        self.assertEqual(answers([0, 5, 3, 9, 0, 2, 0, 1, 8, 0, 0]), [1, 0, 1, 0, 1, -6, 1, -2, 1, -2])

    def test_what_is_given_back_is_its_own(self):
        told = answers(LINE)
        told.clear()
        self.assertEqual(answers(LINE), TOLD)

    def test_lines_in_between_do_not_meet(self):
        wanted = answers([0, 1, 3, 3, 3])
        answers([0, 0])
        answers([0, 300] + [3] * 6)
        self.assertEqual(answers([0, 1, 3, 3, 3]), wanted)

    def test_one_call(self):
        self.assertEqual(answers([0, 1]), [1, 0])
        self.assertEqual(answers([0, 0]), [1, -22])
        self.assertEqual(answers([4, 0]), [1, -11])
        self.assertEqual(answers([4, 8] + [4294967295] * 8), [1, -11])

    def test_400_calls(self):
        self.assertEqual(answers([0, 300] + [3] * 399), [1, 0] + [1, 0, 1, 1, 1, 2, 1, 3, 1, 4, 1, 5] + [1, -28] * 393)

    def test_4000_numbers(self):
        rows = [4, 8, 1, 2, 3, 4, 5, 6, 7, 8] * 399
        self.assertEqual(answers([0, 300] + rows), [1, 0] + [1, -22] * 399)

    def test_other_calls_are_not_taken_for_one_of_these(self):
        for call in (20, 4294967295):
            self.assertRaises(vats.NoSuchCall, answers, [0, 1, call])


if __name__ == "__main__":
    unittest.main()
