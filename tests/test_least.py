import unittest

from lines import HIGHEST, answered, last, stood

# Windows that nothing falls out of; one of them is made narrow where it's to matter.
ANY = (0, 1000)
WATER = (0, 0, 0, 0)


def fat(least, most):
    return [least, most, *ANY, *ANY]


def solids(least, most):
    return [*ANY, least, most, *ANY]


def sugar(least, most):
    return [*ANY, *ANY, least, most]


def least(room, six, base, kilograms, thing):
    """What least says of ingredient 1, on a mix of so many kilograms of ingredient 0."""
    return last(*stood(room, six, base, kilograms, thing), ("least", 0, 0, 1))


class Least(unittest.TestCase):
    def test_fewest_kilograms_and_what_they_cost(self):
        # 400 n is no less than 100 (10 + n) from 4 on.
        self.assertEqual(least(300, fat(100, 120), WATER, 10, (400, 0, 0, 7, 300)), [4, 28])

    def test_by_each_window_and_each_of_its_bounds(self):
        for six, base, thing, wanted in (
            (fat(100, 1000), WATER, (400, 0, 0, 3, 99), [4, 12]),
            (fat(0, 100), (300, 0, 0, 0), (20, 0, 0, 3, 99), [25, 75]),
            (solids(100, 1000), WATER, (0, 400, 0, 3, 99), [4, 12]),
            (solids(100, 1000), WATER, (100, 100, 200, 3, 99), [4, 12]),
            (solids(0, 100), (100, 100, 100, 0), (10, 5, 5, 3, 99), [25, 75]),
            (sugar(100, 1000), WATER, (0, 0, 400, 3, 99), [4, 12]),
            (sugar(0, 100), (0, 0, 300, 0), (0, 0, 20, 3, 99), [25, 75]),
        ):
            self.assertEqual(least(300, six, base, 10, thing), wanted, (six, thing))

    def test_what_they_cost(self):
        for price in (0, 1, 999, 1000):
            self.assertEqual(least(300, fat(100, 120), WATER, 10, (400, 0, 0, price, 300)), [4, 4 * price])

    def test_a_mix_that_fits_already(self):
        for stock in (0, 1, 300):
            for room in (10, 11, 300):
                for thing in (WATER, (1000, 0, 0, 1000)):
                    told = least(room, fat(100, 120), (110, 0, 0, 5), 10, (*thing, stock))
                    self.assertEqual(told, [0, 0], (stock, room, thing))

    def test_fat_that_is_just_the_least(self):
        self.assertEqual(least(300, fat(100, 120), (100, 0, 0, 5), 10, (400, 0, 0, 7, 99)), [0, 0])
        # 30 n is no less than 10 from 1 on: a third of a kilogram is a whole one.
        self.assertEqual(least(300, fat(100, 130), (99, 0, 0, 5), 10, (400, 0, 0, 7, 99)), [1, 7])
        # 3 kilograms and 1 have 400 grams.
        self.assertEqual(least(300, fat(100, 120), WATER, 3, (400, 0, 0, 7, 99)), [1, 7])
        self.assertEqual(least(300, fat(100, 120), WATER, 30, (400, 0, 0, 7, 99)), [10, 70])
        self.assertEqual(least(300, fat(100, 120), WATER, 31, (400, 0, 0, 7, 99)), [11, 77])

    def test_fat_that_is_just_the_most(self):
        self.assertEqual(least(300, fat(90, 100), (100, 0, 0, 5), 10, (*WATER, 99)), [0, 0])
        self.assertEqual(least(300, fat(90, 100), (200, 0, 0, 5), 10, (*WATER, 99)), [10, 0])
        self.assertEqual(least(300, fat(90, 100), (201, 0, 0, 5), 10, (*WATER, 99)), [11, 0])

    def test_a_window_of_one_number(self):
        self.assertEqual(least(300, fat(100, 100), WATER, 3, (400, 0, 0, 7, 99)), [1, 7])
        self.assertEqual(least(300, fat(100, 100), WATER, 6, (400, 0, 0, 7, 99)), [2, 14])
        for kilograms in (4, 5):
            self.assertEqual(least(300, fat(100, 100), WATER, kilograms, (400, 0, 0, 7, 99)), [-33])
        self.assertEqual(least(300, fat(100, 100), (100, 0, 0, 0), 4, (400, 0, 0, 7, 99)), [0, 0])

    def test_three_windows_of_one_number(self):
        six = [100, 100, 300, 300, 50, 50]
        self.assertEqual(least(300, six, WATER, 9, (200, 300, 100, 1, 99)), [9, 9])
        self.assertEqual(least(300, six, WATER, 9, (200, 301, 100, 1, 99)), [-33])

    def test_a_window_that_is_leapt_over(self):
        # With none there's no fat, with one half of it is.
        self.assertEqual(least(300, fat(100, 120), WATER, 1, (1000, 0, 0, 1, 299)), [-33])

    def test_fat_comes_in_and_sugar_goes_out(self):
        base = (0, 0, 200, 0)
        cream = (400, 0, 0, 1, 99)
        for six, wanted in (
            ([100, 1000, *ANY, 140, 1000], [4, 4]),
            ([100, 1000, *ANY, 142, 1000], [4, 4]),
            ([100, 1000, *ANY, 143, 1000], [-33]),
            ([50, 1000, *ANY, 0, 150], [4, 4]),
            ([50, 1000, *ANY, 0, 1000], [2, 2]),
            ([0, 100, *ANY, 0, 154], [3, 3]),
            ([0, 100, *ANY, 0, 153], [-33]),
        ):
            self.assertEqual(least(300, six, base, 10, cream), wanted, six)

    def test_a_gram_a_kilogram(self):
        # Each kilogram has one gram of sugar less than the least: 2 of them use up the 2 that are to spare.
        six = [100, 1000, *ANY, 10, 1000]
        self.assertEqual(least(300, six, (0, 0, 12, 0), 1, (150, 0, 9, 1, 99)), [2, 2])
        self.assertEqual(least(300, six, (0, 0, 11, 0), 1, (150, 0, 9, 1, 99)), [-33])
        # Each has one more than the least: 5 are wanted where 5 are missing.
        self.assertEqual(least(300, sugar(10, 1000), (0, 0, 5, 0), 1, (0, 0, 11, 1, 99)), [5, 5])
        self.assertEqual(least(300, sugar(0, 10), (0, 0, 15, 0), 1, (0, 0, 9, 1, 99)), [5, 5])
        # Each has one more than the most.
        six = [100, 1000, *ANY, 0, 10]
        self.assertEqual(least(300, six, (0, 0, 8, 0), 1, (150, 0, 11, 1, 99)), [2, 2])
        self.assertEqual(least(300, six, (0, 0, 9, 0), 1, (150, 0, 11, 1, 99)), [-33])

    def test_an_ingredient_of_nothing(self):
        self.assertEqual(least(300, solids(0, 300), (100, 200, 100, 5), 10, (*WATER, 99)), [4, 0])
        self.assertEqual(least(300, solids(0, 300), (100, 200, 100, 5), 10, (0, 0, 0, 9, 99)), [4, 36])
        self.assertEqual(least(300, fat(1, 1000), WATER, 10, (*WATER, 99)), [-33])
        self.assertEqual(least(300, fat(0, 0), (1, 0, 0, 0), 10, (*WATER, 99)), [-33])

    def test_an_ingredient_that_is_as_the_bound(self):
        # However much is added, what's missing at first stays missing.
        self.assertEqual(least(300, fat(100, 120), (99, 0, 0, 0), 1, (100, 0, 0, 1, 299)), [-33])
        self.assertEqual(least(300, fat(100, 120), (121, 0, 0, 0), 1, (120, 0, 0, 1, 299)), [-33])
        self.assertEqual(least(300, fat(100, 120), (100, 0, 0, 0), 1, (100, 0, 0, 1, 299)), [0, 0])

    def test_grams_that_do_not_divide(self):
        # 100 grams in 3 kilograms; of 2 drawn 66 are gone, of 1 drawn 33: 34 are left in 1, 67 in 2.
        ready = [("begin", 300), ("thing", 100, 0, 0, 0), ("thing", 0, 0, 0, 2), ("buy", 0, 1), ("buy", 1, 50), ("mix",),
                 ("add", 0, 0, 1), ("add", 0, 1, 2), ("recipe", fat(0, 33)), ("recipe", fat(0, 34))]
        for call, wanted in ((("look", 0), [[1, 2], [0, 0]]), (("draw", 0, 1), [[1, 2], [0, 0]]),
                             (("draw", 0, 2), [[1, 2], [0, 0]])):
            self.assertEqual(answered(*ready, call, ("least", 0, 0, 1), ("least", 0, 1, 1))[-2:], wanted, call)

    def test_only_asked_of_what_the_mix_has(self):
        # Mix 1 has what would be asked for; it's neither looked at nor counted as stock.
        ready = stood(300, fat(100, 120), WATER, 10, (400, 0, 0, 7, 4))
        told = answered(*ready, ("mix",), ("add", 1, 1, 1), ("least", 0, 0, 1), ("least", 1, 0, 1))
        self.assertEqual(told[-2:], [[-33], [-33]])

    def test_by_the_ingredient_it_is_made_of(self):
        self.assertEqual(last(*stood(300, fat(100, 120), (90, 0, 0, 1), 10), ("buy", 0, 290), ("least", 0, 0, 0)), [-33])
        self.assertEqual(last(*stood(300, fat(100, 120), (110, 0, 0, 1), 10), ("least", 0, 0, 0)), [0, 0])

    def test_each_argument_is_the_one_told(self):
        ready = stood(300, fat(100, 120), WATER, 10, (400, 0, 0, 7, 99), (200, 0, 0, 1, 99))
        ready += [("mix",), ("add", 1, 2, 1), ("recipe", fat(50, 1000)), ("recipe", fat(150, 180))]
        for call, wanted in ((("least", 0, 0, 1), [4, 28]), (("least", 0, 0, 2), [10, 10]), (("least", 0, 1, 1), [2, 14]),
                             (("least", 0, 1, 2), [4, 4]), (("least", 0, 2, 1), [6, 42]), (("least", 0, 2, 2), [30, 30]),
                             (("least", 1, 1, 1), [0, 0]), (("least", 1, 2, 0), [-33])):
            self.assertEqual(last(*ready, call), wanted, call)


class StockAndRoom(unittest.TestCase):
    def test_stock_at_its_edge(self):
        for stock, wanted in ((0, [-33]), (1, [-33]), (3, [-33]), (4, [4, 28]), (5, [4, 28]), (10000, [4, 28])):
            self.assertEqual(least(300, fat(100, 120), WATER, 10, (400, 0, 0, 7, stock)), wanted, stock)

    def test_room_at_its_edge(self):
        for room, wanted in ((10, [-33]), (11, [-33]), (13, [-33]), (14, [4, 28]), (15, [4, 28])):
            self.assertEqual(least(room, fat(100, 120), WATER, 10, (400, 0, 0, 7, 99)), wanted, room)

    def test_stock_and_room_at_the_same_edge(self):
        self.assertEqual(least(14, fat(100, 120), WATER, 10, (400, 0, 0, 7, 4)), [4, 28])
        self.assertEqual(least(13, fat(100, 120), WATER, 10, (400, 0, 0, 7, 3)), [-33])

    def test_stock_that_was_added_elsewhere_is_gone(self):
        ready = stood(300, fat(100, 120), WATER, 10, (400, 0, 0, 7, 5)) + [("mix",)]
        told = answered(*ready, ("add", 1, 1, 1), ("least", 0, 0, 1), ("add", 1, 1, 1), ("least", 0, 0, 1))
        self.assertEqual([told[-3], told[-1]], [[4, 28], [-33]])

    def test_drawn_makes_room(self):
        # 9 kilograms need 3 more, and there's room for as many when one is drawn.
        ready = stood(12, fat(100, 120), WATER, 10, (400, 0, 0, 7, 99))
        told = answered(*ready, ("least", 0, 0, 1), ("draw", 0, 1), ("least", 0, 0, 1))
        self.assertEqual([told[-3], told[-1]], [[-33], [3, 21]])

    def test_the_most_that_can_be_added(self):
        # 300 n is no less than 299 (1 + n) from 299 on.
        self.assertEqual(least(300, fat(299, 300), WATER, 1, (300, 0, 0, 1000, 299)), [299, 299000])
        self.assertEqual(least(300, fat(299, 300), WATER, 1, (300, 0, 0, 1000, 298)), [-33])
        self.assertEqual(least(299, fat(299, 300), WATER, 1, (300, 0, 0, 1000, 299)), [-33])

    def test_room_for_one_kilogram(self):
        self.assertEqual(least(1, fat(100, 120), (100, 0, 0, 0), 1, (400, 0, 0, 7, 9)), [0, 0])
        self.assertEqual(least(1, fat(100, 120), (99, 0, 0, 0), 1, (400, 0, 0, 7, 9)), [-33])
        self.assertEqual(least(2, fat(100, 250), (99, 0, 0, 0), 1, (400, 0, 0, 7, 9)), [1, 7])


class Refusals(unittest.TestCase):
    ready = stood(300, fat(100, 120), WATER, 10, (400, 0, 0, 7, 99)) + [("mix",)]

    def test_each_at_its_edge(self):
        for call, wanted in (
            (("least", 0, 0, 1), [4, 28]), (("least", 1, 0, 1), [-6]), (("least", 2, 0, 1), [-2]),
            (("least", 0, 1, 1), [-2]), (("least", 0, 0, 2), [-2]), (("least", 0, 0, 0), [-33]),
            (("least", HIGHEST, 0, 1), [-2]), (("least", 0, HIGHEST, 1), [-2]), (("least", 0, 0, HIGHEST), [-2]),
            (("least", HIGHEST, HIGHEST, HIGHEST), [-2]),
        ):
            self.assertEqual(last(*self.ready, call), wanted, call)

    def test_none_such_comes_ahead_of_of_nothing(self):
        for call in (("least", 1, 1, 1), ("least", 1, 0, 2), ("least", 1, HIGHEST, HIGHEST)):
            self.assertEqual(last(*self.ready, call), [-2], call)

    def test_of_nothing_comes_ahead_of_cannot_be(self):
        self.assertEqual(last(*self.ready, ("least", 1, 0, 0)), [-6])

    def test_a_mix_drawn_to_nothing(self):
        told = answered(*self.ready, ("draw", 0, 9), ("least", 0, 0, 1), ("draw", 0, 1), ("least", 0, 0, 1))
        self.assertEqual([told[-3], told[-1]], [[-33], [-6]])

    def test_nothing_is_there(self):
        self.assertEqual(last(("begin", 1), ("least", 0, 0, 0)), [-2])


if __name__ == "__main__":
    unittest.main()
