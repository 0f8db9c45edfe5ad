import unittest

from lines import HIGHEST, answered, last

BEGUN = [("begin", 300)]
ANY = [0, 1000, 0, 1000, 0, 1000]


def verdict(thing, six, kilograms=1):
    """What fits says of so many kilograms of one ingredient."""
    return last(*BEGUN, ("thing", *thing, 0), ("buy", 0, 300), ("mix",), ("add", 0, 0, kilograms), ("recipe", six),
                ("fits", 0, 0))


class Recipe(unittest.TestCase):
    def test_numbers_rise_from_0(self):
        self.assertEqual(answered(*BEGUN, *[("recipe", ANY)] * 6)[1:], [[0], [1], [2], [3], [4], [5]])

    def test_the_seventh_is_too_many(self):
        told = answered(*BEGUN, *[("recipe", ANY)] * 6, ("recipe", ANY), ("recipe", ANY))
        self.assertEqual(told[-2:], [[-28], [-28]])

    def test_not_six(self):
        for length in (0, 1, 2, 3, 4, 5, 7, 8):
            self.assertEqual(last(*BEGUN, ("recipe", [0] * length)), [-22], length)
        self.assertEqual(last(*BEGUN, ("recipe", ANY + [0, 1000])), [-22])

    def test_calls_behind_a_row_of_another_length_are_read_rightly(self):
        for length in (0, 1, 5, 7, 8):
            told = answered(*BEGUN, ("recipe", [3] * length), ("mix",), ("recipe", ANY), ("mix",))
            self.assertEqual(told, [[0], [-22], [0], [0], [1]], length)

    def test_each_at_most_1000(self):
        self.assertEqual(last(*BEGUN, ("recipe", [1000] * 6)), [0])
        for place in range(6):
            for grams in (1001, HIGHEST):
                six = list(ANY)
                six[place] = grams
                six[place // 2 * 2 + 1] = grams
                self.assertEqual(last(*BEGUN, ("recipe", six)), [-22], six)

    def test_a_least_above_its_most(self):
        for window in range(3):
            six = list(ANY)
            six[2 * window] = 501
            six[2 * window + 1] = 500
            self.assertEqual(last(*BEGUN, ("recipe", six)), [-22], six)
            six[2 * window] = 500
            self.assertEqual(last(*BEGUN, ("recipe", six)), [0], six)

    def test_windows_may_contradict_one_another(self):
        self.assertEqual(last(*BEGUN, ("recipe", [900, 1000, 0, 10, 900, 1000])), [0])

    def test_out_of_range_comes_ahead_of_too_many(self):
        full = BEGUN + [("recipe", ANY)] * 6
        for six in ([], [0] * 5, [0] * 7, [1, 0, 0, 0, 0, 0], [0, 1001, 0, 0, 0, 0], [HIGHEST] * 6, [HIGHEST] * 8):
            self.assertEqual(last(*full, ("recipe", six)), [-22], six)

    def test_refused_adds_none(self):
        ready = BEGUN + [("thing", 1, 1, 1, 1), ("buy", 0, 1), ("mix",), ("add", 0, 0, 1)]
        for six in ([], [0] * 5, [0] * 7, [1, 0, 0, 1000, 0, 1000], [0, 1001, 0, 1000, 0, 1000]):
            told = answered(*ready, ("recipe", six), ("fits", 0, 0), ("which", 0), ("recipe", ANY), ("which", 0))
            self.assertEqual(told[5:], [[-22], [-2], [0], [0], [1, 0]], six)

    def test_the_seventh_leaves_the_six(self):
        ready = BEGUN + [("thing", 1, 1, 1, 1), ("buy", 0, 1), ("mix",), ("add", 0, 0, 1)]
        never = [1000] * 6
        told = answered(*ready, *[("recipe", never)] * 6, ("recipe", ANY), ("which", 0), ("fits", 0, 6))
        self.assertEqual(told[-3:], [[-28], [0], [-2]])


class Fits(unittest.TestCase):
    def test_fat_at_its_edges(self):
        six = [100, 120, 0, 1000, 0, 1000]
        for fat, wrong in ((0, 1), (99, 1), (100, 0), (110, 0), (120, 0), (121, 1), (1000, 1)):
            self.assertEqual(verdict((fat, 0, 0), six), [wrong], fat)

    def test_all_solids_at_their_edges(self):
        six = [0, 1000, 300, 400, 0, 1000]
        for thing, wrong in (((100, 100, 99), 2), ((100, 100, 100), 0), ((300, 0, 0), 0), ((0, 300, 0), 0),
                             ((0, 0, 300), 0), ((0, 299, 0), 2), ((200, 100, 100), 0), ((200, 100, 101), 2),
                             ((201, 100, 100), 2), ((200, 101, 100), 2)):
            self.assertEqual(verdict(thing, six), [wrong], thing)

    def test_sugar_at_its_edges(self):
        six = [0, 1000, 0, 1000, 140, 160]
        for sugar, wrong in ((0, 3), (139, 3), (140, 0), (160, 0), (161, 3)):
            self.assertEqual(verdict((50, 50, sugar), six), [wrong], sugar)

    def test_other_solids_are_in_no_window_of_their_own(self):
        self.assertEqual(verdict((100, 700, 100), [100, 100, 900, 900, 100, 100]), [0])

    def test_the_first_that_is_so(self):
        thing = (100, 100, 100)
        good = [100, 100, 300, 300, 100, 100]
        for fat in (True, False):
            for solids in (True, False):
                for sugar in (True, False):
                    six = list(good)
                    if not fat:
                        six[0:2] = [0, 99]
                    if not solids:
                        six[2:4] = [301, 1000]
                    if not sugar:
                        six[4:6] = [0, 0]
                    wanted = 1 if not fat else 2 if not solids else 3 if not sugar else 0
                    self.assertEqual(verdict(thing, six), [wanted], six)

    def test_a_window_of_one_number(self):
        for grams, wrong in ((99, 1), (100, 0), (101, 1)):
            self.assertEqual(verdict((grams, 0, 0), [100, 100, 0, 1000, 0, 1000], 7), [wrong], grams)
        for grams, wrong in ((99, 2), (100, 0), (101, 2)):
            self.assertEqual(verdict((0, grams, 0), [0, 1000, 100, 100, 0, 1000], 7), [wrong], grams)
        for grams, wrong in ((99, 3), (100, 0), (101, 3)):
            self.assertEqual(verdict((0, 0, grams), [0, 1000, 0, 1000, 100, 100], 7), [wrong], grams)

    def test_an_ingredient_of_nothing(self):
        self.assertEqual(verdict((0, 0, 0), [0] * 6, 300), [0])
        self.assertEqual(verdict((0, 0, 0), [1, 1000, 0, 1000, 0, 1000], 300), [1])
        self.assertEqual(verdict((0, 0, 0), [0, 1000, 1, 1000, 0, 1000], 300), [2])
        self.assertEqual(verdict((0, 0, 0), [0, 1000, 0, 1000, 1, 1000], 300), [3])

    def test_the_highest_window(self):
        self.assertEqual(verdict((1000, 0, 0), [1000, 1000, 1000, 1000, 0, 0], 300), [0])
        self.assertEqual(verdict((999, 0, 0), [1000, 1000, 1000, 1000, 0, 0], 300), [1])

    def test_one_gram_of_many_kilograms_counts(self):
        # 300 kilograms with 300 grams of fat, then 299 in 300, then 301.
        ready = BEGUN + [("thing", 1, 0, 0, 0), ("thing", 0, 0, 0, 0), ("thing", 2, 0, 0, 0), ("buy", 0, 300),
                         ("buy", 1, 1), ("buy", 2, 1), ("mix",), ("recipe", [1, 1, 0, 1000, 0, 1000])]
        self.assertEqual(last(*ready, ("add", 0, 0, 300), ("fits", 0, 0)), [0])
        self.assertEqual(last(*ready, ("add", 0, 0, 299), ("add", 0, 1, 1), ("fits", 0, 0)), [1])
        self.assertEqual(last(*ready, ("add", 0, 0, 299), ("add", 0, 2, 1), ("fits", 0, 0)), [1])

    def test_grams_that_do_not_divide(self):
        # 100 grams in 3 kilograms; one drawn takes 33 and leaves 67 in 2.
        ready = BEGUN + [("thing", 100, 0, 0, 0), ("thing", 0, 0, 0, 0), ("buy", 0, 1), ("buy", 1, 2), ("mix",),
                         ("add", 0, 0, 1), ("add", 0, 1, 2)]
        for least, most, whole, rest in ((33, 33, 1, 1), (34, 34, 1, 1), (33, 34, 0, 0), (34, 100, 1, 1)):
            told = answered(*ready, ("recipe", [least, most, 0, 1000, 0, 1000]), ("fits", 0, 0), ("draw", 0, 1),
                            ("fits", 0, 0))
            self.assertEqual(told[-3:], [[whole], [1, 33, 0, 0, 0], [rest]], (least, most))

    def test_refusals(self):
        ready = BEGUN + [("thing", 1, 1, 1, 1), ("buy", 0, 1), ("mix",), ("mix",), ("recipe", ANY), ("add", 0, 0, 1)]
        for call, wanted in ((("fits", 0, 0), 0), (("fits", 1, 0), -6), (("fits", 2, 0), -2), (("fits", 0, 1), -2),
                             (("fits", 1, 1), -2), (("fits", HIGHEST, 0), -2), (("fits", 0, HIGHEST), -2),
                             (("fits", 1, HIGHEST), -2), (("fits", HIGHEST, HIGHEST), -2)):
            self.assertEqual(last(*ready, call), [wanted], call)

    def test_asking_changes_nothing(self):
        ready = BEGUN + [("thing", 10, 20, 30, 40), ("buy", 0, 9), ("mix",), ("recipe", ANY), ("add", 0, 0, 3)]
        told = answered(*ready, ("fits", 0, 0), ("which", 0), ("fits", 0, 0), ("which", 0), ("buy", 0, 1), ("draw", 0, 3))
        self.assertEqual(told[6:], [[0], [1, 0], [0], [1, 0], [7], [3, 30, 60, 90, 120]])


class Which(unittest.TestCase):
    ready = BEGUN + [("thing", 100, 100, 100, 1), ("buy", 0, 9), ("mix",), ("mix",), ("add", 0, 0, 2)]
    good = ("recipe", [100, 100, 300, 300, 100, 100])
    bad_fat = ("recipe", [101, 1000, 0, 1000, 0, 1000])
    bad_solids = ("recipe", [0, 1000, 0, 299, 0, 1000])
    bad_sugar = ("recipe", [0, 1000, 0, 1000, 0, 99])

    def test_none_there(self):
        self.assertEqual(last(*self.ready, ("which", 0)), [0])

    def test_none_fits(self):
        self.assertEqual(last(*self.ready, self.bad_fat, self.bad_solids, self.bad_sugar, ("which", 0)), [0])

    def test_some_rising(self):
        told = last(*self.ready, self.bad_fat, self.good, self.bad_solids, self.good, self.bad_sugar, self.good,
                    ("which", 0))
        self.assertEqual(told, [3, 1, 3, 5])

    def test_all(self):
        self.assertEqual(last(*self.ready, *[self.good] * 6, ("which", 0)), [6, 0, 1, 2, 3, 4, 5])

    def test_refusals(self):
        for mix, wanted in ((1, -6), (2, -2), (6, -2), (HIGHEST, -2)):
            self.assertEqual(last(*self.ready, self.good, ("which", mix)), [wanted], mix)

    def test_agrees_with_fits(self):
        recipes = [self.bad_fat, self.good, self.bad_sugar, ("recipe", ANY), self.bad_solids]
        told = answered(*self.ready, *recipes, ("which", 0), *[("fits", 0, number) for number in range(5)])
        fitting = [number for number, wrong in enumerate(told[-5:]) if wrong == [0]]
        self.assertEqual(told[-6], [len(fitting)] + fitting)


if __name__ == "__main__":
    unittest.main()
