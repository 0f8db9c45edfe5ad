import unittest

from creammixes import vats
from creammixes.vats import answers
from lines import HIGHEST, NUMBERS, answered, more, tried_two

LINE = [
    0, 10,
    1, 100, 200, 300, 7,
    2, 0, 20,
    3,
    3,
    4, 6, 0, 100, 0, 600, 0, 300,
    4, 2, 5, 5,
    4, 0,
    5, 0, 0, 4,
    6, 0, 1, 3,
    7, 1, 2,
    8, 0, 0,
    9, 0,
    9, 5,
    10, 0, 0, 0,
    11, 0, 0, 0, 0,
    1, 0, 0, 0, 0,
    11, 0, 0, 0, 1,
    12, 0, 0,
    13, 0, 0, 2,
    14, 1, 0, 1,
    15, 0,
    16, 0,
    17,
    18,
    19,
    15, 9,
]

TOLD = [
    1, 0,
    1, 0,
    1, 20,
    1, 0,
    1, 1,
    1, 0,
    1, -22,
    1, -22,
    5, 4, 400, 800, 1200, 28,
    5, 3, 300, 600, 900, 21,
    5, 2, 200, 400, 600, 14,
    1, 0,
    2, 1, 0,
    1, -2,
    2, 0, 0,
    1, -22,
    1, 1,
    3, 0, 0, 0,
    2, 0, 0,
    5, 3, 300, 600, 900, 21,
    5, 2, 200, 400, 600, 14,
    5, 1, 100, 200, 300, 7,
    5, 16, 100, 200, 300, 7,
    3, 0, 7, 1,
    5, 0, 20, 16, 2, 2,
    4, 2, 2, 1, 10,
    1, -2,
]


class Interface(unittest.TestCase):
    def test_calls_and_answers_one_behind_another(self):
        self.assertEqual(answers(LINE), TOLD)

    def test_gives_back_a_list_of_whole_numbers(self):
        told = answers(LINE)
        self.assertIs(type(told), list)
        for number in told:
            self.assertIs(type(number), int)

    def test_fits_gives_a_whole_number_not_a_truth(self):
        for number in answers(LINE[:-2] + [8, 0, 0, 8, 1, 0, 9, 1]):
            self.assertIs(type(number), int)

    def test_what_is_handed_in_is_not_changed(self):
        handed = list(LINE)
        answers(handed)
        self.assertEqual(handed, LINE)

    def test_only_read_while_it_works(self):
        class OnlyRead(list):
            def changed(self, *given):
                raise AssertionError("the list handed in is changed")

            __setitem__ = __delitem__ = __iadd__ = __imul__ = changed
            append = extend = insert = pop = remove = reverse = sort = clear = changed

        self.assertEqual(answers(OnlyRead(LINE)), TOLD)

    def test_the_same_list_again(self):
        handed = list(LINE)
        self.assertEqual(answers(handed), TOLD)
        self.assertEqual(answers(handed), TOLD)

    def test_nothing_is_kept(self):
        answers(LINE)
        self.assertEqual(answers([3]), [1, -11])
        self.assertEqual(answers([0, 5, 3, 9, 0, 2, 0, 1, 8, 0, 0]), [1, 0, 1, 0, 1, -6, 1, -2, 1, -2])

    def test_what_is_given_back_is_its_own(self):
        told = answers(LINE)
        told.clear()
        self.assertEqual(answers(LINE), TOLD)

    def test_lines_in_between_do_not_meet(self):
        wanted = answers([0, 1, 3, 3, 3])
        answers([0, 0])
        answers([0, 300] + [3] * 6)
        self.assertEqual(answers([0, 1, 3, 3, 3]), wanted)

    def test_one_call(self):
        self.assertEqual(answers([0, 1]), [1, 0])
        self.assertEqual(answers([0, 0]), [1, -22])
        self.assertEqual(answers([4, 0]), [1, -11])
        self.assertEqual(answers([4, 8] + [4294967295] * 8), [1, -11])

    def test_400_calls(self):
        self.assertEqual(answers([0, 300] + [3] * 399), [1, 0] + [1, 0, 1, 1, 1, 2, 1, 3, 1, 4, 1, 5] + [1, -28] * 393)

    def test_4000_numbers(self):
        rows = [4, 8, 1, 2, 3, 4, 5, 6, 7, 8] * 399
        self.assertEqual(answers([0, 300] + rows), [1, 0] + [1, -22] * 399)

    def test_every_call_has_its_number_and_as_many_behind_it(self):
        counts = {"begin": 1, "thing": 4, "buy": 2, "mix": 0, "add": 3, "pour": 3, "draw": 2, "fits": 2, "which": 1,
                  "least": 3, "two": 4, "best": 2, "would": 3, "after": 3, "look": 1, "of": 1, "dear": 0, "sums": 0,
                  "state": 0}
        self.assertEqual(sorted(NUMBERS), sorted([*counts, "recipe"]))
        for name, count in counts.items():
            told = answers([NUMBERS[name]] + [HIGHEST] * count + [0, 9, 19])
            self.assertEqual(told, [1, -22 if name == "begin" else -11, 1, 0, 4, 0, 0, 0, 9], name)

    def test_other_calls_are_not_taken_for_one_of_these(self):
        for call in (20, 4294967295):
            self.assertRaises(vats.NoSuchCall, answers, [0, 1, call])


class FourHundredCalls(unittest.TestCase):
    """Every call ends, with the highest room and stocks of some hundred."""

    things = [(0, 0, 0, 0), (313, 89, 41, 3), (11, 97, 401, 5), (1000, 0, 0, 9), (0, 0, 1000, 2), (2, 700, 130, 4),
              (120, 260, 170, 6), (97, 300, 160, 1)]
    sixes = [[103, 104, 317, 322, 193, 197], [100, 100, 333, 333, 151, 151], [999, 1000, 0, 1000, 999, 1000]]
    pairs = [(first, other) for first in range(8) for other in range(8) if first != other]

    def line(self, kilograms):
        calls = [("begin", 300), ("mix",)] + [("recipe", six) for six in self.sixes]
        calls += [("thing", *thing) for thing in self.things] + [("buy", thing, 400 + thing) for thing in range(8)]
        calls.append(("add", 0, 0, kilograms))
        for recipe in range(3):
            calls += [("best", 0, recipe)] + [("two", 0, recipe, *pair) for pair in self.pairs]
        # By no shares both windows of the last are kept, so that all of them are gone through.
        calls += [("two", 0, 2, *pair) for pair in self.pairs] * 4
        return calls[:400]

    def tried(self, kilograms, recipe, pair):
        has = more([0] * 5, self.things[0], kilograms)
        stocks = [400 + thing - (kilograms if thing == 0 else 0) for thing in pair]
        wanted = tried_two(has, self.sixes[recipe], *[self.things[thing] for thing in pair], stocks, 300 - kilograms)
        return [-33] if wanted is None else wanted

    def test_two_and_best(self):
        for kilograms in (1, 111):
            calls = self.line(kilograms)
            self.assertEqual(len(calls), 400)
            told = answered(*calls)
            found = dict(zip([str(call) for call in calls], told))
            for recipe in range(3):
                for pair in self.pairs:
                    there = found[str(("two", 0, recipe, *pair))]
                    back = found[str(("two", 0, recipe, *pair[::-1]))]
                    self.assertEqual(there[0], back[0], (kilograms, recipe, pair))
                for pair in ((1, 2), (2, 1), (0, 6)):
                    wanted = self.tried(kilograms, recipe, pair)
                    self.assertEqual(found[str(("two", 0, recipe, *pair))], wanted, (kilograms, recipe, pair))
            for call, answer in zip(calls, told):
                self.assertEqual(answer, found[str(call)], call)
            self.assertEqual(told[-100:], [[-33]] * 100)


if __name__ == "__main__":
    unittest.main()
