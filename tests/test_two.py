import random
import unittest

from lines import HIGHEST, answered, last, more, stood, suits, tried_two

ANY = (0, 1000)
WATER = (0, 0, 0, 0)
FAT = [100, 120, *ANY, *ANY]
# What is made of water, fat and sugar alone.
FAT_AND_SUGAR = [100, 200, *ANY, 100, 200]
BUTTER = (1000, 0, 0, 9)
SUGAR = (0, 0, 1000, 2)
CREAM = (400, 0, 0, 7)


def two(room, six, base, kilograms, first, other):
    """What two says of the ingredients 1 and 2, on a mix of so many kilograms of ingredient 0."""
    return last(*stood(room, six, base, kilograms, first, other), ("two", 0, 0, 1, 2))


class Two(unittest.TestCase):
    def test_both_are_needed(self):
        # Of 14 kilograms a tenth isn't had by 1.
        self.assertEqual(two(300, FAT_AND_SUGAR, WATER, 10, (*BUTTER, 99), (*SUGAR, 99)), [4, 2, 2])
        self.assertEqual(two(300, FAT_AND_SUGAR, WATER, 8, (*BUTTER, 99), (*SUGAR, 99)), [2, 1, 1])
        self.assertEqual(two(300, [100, 200, *ANY, 200, 300], WATER, 7, (*BUTTER, 99), (*SUGAR, 99)), [3, 1, 2])
        self.assertEqual(two(300, [200, 300, *ANY, 100, 200], WATER, 7, (*BUTTER, 99), (*SUGAR, 99)), [3, 2, 1])

    def test_the_first_is_the_one_told_first(self):
        ready = stood(300, [100, 200, *ANY, 200, 300], WATER, 7, (*BUTTER, 99), (*SUGAR, 99))
        self.assertEqual(answered(*ready, ("two", 0, 0, 1, 2), ("two", 0, 0, 2, 1))[-2:], [[3, 1, 2], [3, 2, 1]])

    def test_of_more_ways_the_one_with_fewest_of_the_first(self):
        for first, other, wanted in (
            ((*CREAM, 99), (*CREAM, 99), [4, 0, 4]),
            ((*CREAM, 99), (*CREAM, 4), [4, 0, 4]),
            ((*CREAM, 99), (*CREAM, 3), [4, 1, 3]),
            ((*CREAM, 99), (*CREAM, 1), [4, 3, 1]),
            ((*CREAM, 99), (*CREAM, 0), [4, 4, 0]),
            ((*CREAM, 0), (*CREAM, 99), [4, 0, 4]),
            ((*CREAM, 1), (*CREAM, 3), [4, 1, 3]),
            ((*CREAM, 0), (*CREAM, 3), [-33]),
            ((*CREAM, 1), (*CREAM, 2), [-33]),
        ):
            self.assertEqual(two(300, FAT, WATER, 10, first, other), wanted, (first, other))

    def test_price_does_not_matter(self):
        self.assertEqual(two(300, FAT, WATER, 10, (400, 0, 0, 0, 99), (400, 0, 0, 1000, 99)), [4, 0, 4])

    def test_ways_that_begin_above_none_of_the_first(self):
        # 12 kilograms want 1200 to 1440 grams: 900 and 400 do, twice 400 is too little, twice 900 too much.
        self.assertEqual(two(300, FAT, WATER, 10, (900, 0, 0, 9, 99), (*CREAM, 99)), [2, 1, 1])
        self.assertEqual(two(300, FAT, WATER, 10, (*CREAM, 99), (900, 0, 0, 9, 99)), [2, 1, 1])
        self.assertEqual(two(300, FAT, WATER, 10, (900, 0, 0, 9, 99), (300, 0, 0, 9, 99)), [2, 1, 1])

    def test_the_first_alone_would_do(self):
        self.assertEqual(two(300, FAT, WATER, 10, (*CREAM, 99), (*WATER, 99)), [4, 4, 0])
        self.assertEqual(two(300, FAT, WATER, 10, (*CREAM, 99), (*SUGAR, 99)), [4, 4, 0])
        self.assertEqual(two(300, FAT, WATER, 10, (*CREAM, 4), (*WATER, 0)), [4, 4, 0])

    def test_the_other_alone_would_do(self):
        self.assertEqual(two(300, FAT, WATER, 10, (*WATER, 99), (*CREAM, 99)), [4, 0, 4])
        self.assertEqual(two(300, FAT, WATER, 10, (*SUGAR, 99), (*CREAM, 99)), [4, 0, 4])
        self.assertEqual(two(300, FAT, WATER, 10, (*WATER, 0), (*CREAM, 4)), [4, 0, 4])

    def test_one_alone_would_do_but_both_do_with_less(self):
        six = [100, 300, *ANY, 100, 300]
        ready = stood(300, six, WATER, 8, (500, 0, 500, 1, 99), (1000, 0, 0, 1, 99), (0, 0, 1000, 1, 99))
        told = answered(*ready, ("least", 0, 0, 1), ("two", 0, 0, 1, 2), ("two", 0, 0, 2, 1), ("two", 0, 0, 2, 3))[-4:]
        self.assertEqual(told, [[2, 2], [2, 2, 0], [2, 0, 2], [2, 1, 1]])
        ready = stood(300, FAT, WATER, 100, (300, 0, 0, 1, 99), (1000, 0, 0, 1, 5))
        told = answered(*ready, ("least", 0, 0, 1), ("least", 0, 0, 2), ("two", 0, 0, 1, 2), ("two", 0, 0, 2, 1))[-4:]
        self.assertEqual(told, [[50, 50], [-33], [33, 28, 5], [33, 5, 28]])

    def test_both_would_do_alone(self):
        ready = stood(300, FAT, WATER, 10, (*CREAM, 99), (600, 0, 0, 1, 99))
        told = answered(*ready, ("least", 0, 0, 1), ("least", 0, 0, 2), ("two", 0, 0, 1, 2), ("two", 0, 0, 2, 1))[-4:]
        self.assertEqual(told, [[4, 28], [2, 2], [2, 0, 2], [2, 2, 0]])

    def test_a_mix_that_fits_already(self):
        for room in (10, 11, 300):
            for stock in (0, 1, 300):
                told = two(room, FAT, (110, 0, 0, 5), 10, (*BUTTER, stock), (*WATER, stock))
                self.assertEqual(told, [0, 0, 0], (room, stock))

    def test_fat_that_is_just_the_least(self):
        self.assertEqual(two(300, FAT, (100, 0, 0, 5), 10, (*BUTTER, 9), (*WATER, 9)), [0, 0, 0])
        # 1 and 1 bring 600 into 6 kilograms, 100 in each.
        self.assertEqual(two(300, FAT, WATER, 4, (*CREAM, 1), (200, 0, 0, 1, 1)), [2, 1, 1])
        self.assertEqual(two(300, FAT, WATER, 4, (*CREAM, 1), (199, 0, 0, 1, 1)), [-33])

    def test_a_window_of_one_number(self):
        six = [100, 100, *ANY, 200, 200]
        self.assertEqual(two(300, six, WATER, 7, (*BUTTER, 99), (*SUGAR, 99)), [3, 1, 2])
        self.assertEqual(two(300, six, WATER, 14, (*BUTTER, 99), (*SUGAR, 99)), [6, 2, 4])
        self.assertEqual(two(300, six, WATER, 8, (*BUTTER, 99), (*SUGAR, 99)), [-33])
        # 2 of butter are a tenth of 20; water makes up what's missing.
        self.assertEqual(two(300, [100, 100, *ANY, *ANY], WATER, 14, (*WATER, 99), (*BUTTER, 99)), [6, 4, 2])
        self.assertEqual(two(300, [100, 100, *ANY, *ANY], WATER, 14, (*BUTTER, 99), (*WATER, 99)), [6, 2, 4])

    def test_an_ingredient_of_nothing(self):
        self.assertEqual(two(300, FAT, WATER, 10, (*WATER, 99), (0, 0, 0, 5, 99)), [-33])
        self.assertEqual(two(300, [0, 100, *ANY, *ANY], (200, 0, 0, 5), 10, (*WATER, 7), (0, 0, 0, 5, 99)), [10, 0, 10])
        self.assertEqual(two(300, [0, 100, *ANY, *ANY], (200, 0, 0, 5), 10, (*WATER, 7), (0, 0, 0, 5, 3)), [10, 7, 3])
        # 1 of butter leaps over the window, and water brings it back.
        self.assertEqual(two(300, FAT, WATER, 1, (*BUTTER, 99), (*WATER, 99)), [8, 1, 7])

    def test_fat_comes_in_and_sugar_goes_out(self):
        base = (0, 0, 200, 0)
        six = [100, 1000, *ANY, 150, 1000]
        self.assertEqual(two(300, six, base, 10, (*CREAM, 99), (*WATER, 99)), [-33])
        self.assertEqual(two(300, six, base, 10, (*CREAM, 99), (*SUGAR, 99)), [5, 4, 1])
        self.assertEqual(two(300, six, base, 10, (*SUGAR, 99), (*CREAM, 99)), [5, 1, 4])

    def test_grams_that_do_not_divide(self):
        # 67 grams are left in 2 kilograms when 1 of 3 is drawn.
        ready = [("begin", 300), ("thing", 100, 0, 0, 0), ("thing", *WATER), ("thing", 1, 0, 0, 0), ("buy", 0, 1),
                 ("buy", 1, 50), ("buy", 2, 50), ("mix",), ("add", 0, 0, 1), ("add", 0, 1, 2),
                 ("recipe", [0, 33, *ANY, *ANY]), ("recipe", [34, 34, *ANY, *ANY]), ("recipe", [17, 17, *ANY, *ANY]),
                 ("draw", 0, 1)]
        told = answered(*ready, ("two", 0, 0, 1, 2), ("two", 0, 1, 1, 2), ("two", 0, 2, 1, 2))[-3:]
        self.assertEqual(told, [[1, 0, 1], [-33], [2, 1, 1]])

    def test_each_argument_is_the_one_told(self):
        ready = stood(300, FAT, WATER, 10, (*CREAM, 99), (*WATER, 99), (200, 0, 0, 1, 99))
        ready += [("mix",), ("add", 1, 3, 1), ("recipe", [50, 90, *ANY, *ANY])]
        for call, wanted in ((("two", 0, 0, 1, 2), [4, 4, 0]), (("two", 0, 0, 2, 3), [10, 0, 10]),
                             (("two", 0, 1, 1, 3), [2, 1, 1]), (("two", 0, 1, 3, 1), [2, 0, 2]),
                             (("two", 1, 0, 2, 3), [1, 1, 0]), (("two", 1, 1, 3, 2), [2, 0, 2])):
            self.assertEqual(last(*ready, call), wanted, call)


class StockAndRoom(unittest.TestCase):
    def test_stock_of_both_at_its_edge(self):
        for of_first, of_other, wanted in ((2, 2, [4, 2, 2]), (1, 2, [-33]), (2, 1, [-33]), (0, 99, [-33]), (99, 0, [-33]),
                                           (0, 0, [-33]), (10000, 10000, [4, 2, 2])):
            told = two(300, FAT_AND_SUGAR, WATER, 10, (*BUTTER, of_first), (*SUGAR, of_other))
            self.assertEqual(told, wanted, (of_first, of_other))

    def test_room_at_its_edge(self):
        for room, wanted in ((10, [-33]), (11, [-33]), (13, [-33]), (14, [4, 2, 2]), (15, [4, 2, 2])):
            told = two(room, FAT_AND_SUGAR, WATER, 10, (*BUTTER, 99), (*SUGAR, 99))
            self.assertEqual(told, wanted, room)

    def test_room_for_one_kilogram(self):
        self.assertEqual(two(1, FAT, (100, 0, 0, 0), 1, (*BUTTER, 9), (*CREAM, 9)), [0, 0, 0])
        self.assertEqual(two(1, FAT, (99, 0, 0, 0), 1, (*BUTTER, 9), (*CREAM, 9)), [-33])
        self.assertEqual(two(2, [100, 300, *ANY, *ANY], (99, 0, 0, 0), 1, (*BUTTER, 9), (*CREAM, 9)), [1, 0, 1])
        self.assertEqual(two(2, [100, 300, *ANY, *ANY], (99, 0, 0, 0), 1, (*CREAM, 9), (*BUTTER, 9)), [1, 1, 0])

    def test_the_most_that_can_be_added(self):
        six = [299, 300, *ANY, *ANY]
        self.assertEqual(two(300, six, WATER, 1, (300, 0, 0, 1, 150), (300, 0, 0, 1, 149)), [299, 150, 149])
        self.assertEqual(two(300, six, WATER, 1, (300, 0, 0, 1, 149), (300, 0, 0, 1, 149)), [-33])
        self.assertEqual(two(299, six, WATER, 1, (300, 0, 0, 1, 150), (300, 0, 0, 1, 150)), [-33])

    def test_stock_that_was_added_elsewhere_is_gone(self):
        ready = stood(300, FAT, WATER, 10, (*CREAM, 3), (*CREAM, 2)) + [("mix",)]
        told = answered(*ready, ("add", 1, 1, 1), ("two", 0, 0, 1, 2), ("add", 1, 2, 1), ("two", 0, 0, 1, 2))
        self.assertEqual([told[-3], told[-1]], [[4, 2, 2], [-33]])


class Refusals(unittest.TestCase):
    ready = stood(300, FAT, WATER, 10, (*CREAM, 99), (*WATER, 99)) + [("mix",)]

    def test_each_at_its_edge(self):
        for call, wanted in (
            (("two", 0, 0, 1, 2), [4, 4, 0]), (("two", 2, 0, 1, 2), [-2]), (("two", 0, 1, 1, 2), [-2]),
            (("two", 0, 0, 3, 2), [-2]), (("two", 0, 0, 1, 3), [-2]), (("two", HIGHEST, 0, 1, 2), [-2]),
            (("two", 0, HIGHEST, 1, 2), [-2]), (("two", 0, 0, HIGHEST, 2), [-2]), (("two", 0, 0, 1, HIGHEST), [-2]),
            (("two", 0, 0, 1, 1), [-22]), (("two", 0, 0, 0, 0), [-22]), (("two", 1, 0, 1, 2), [-6]),
            (("two", 0, 0, 0, 2), [-33]), (("two", HIGHEST, HIGHEST, HIGHEST, HIGHEST), [-2]),
        ):
            self.assertEqual(last(*self.ready, call), wanted, call)

    def test_none_such_comes_first_of_all(self):
        for call in (("two", 0, 0, 3, 3), ("two", 0, 0, HIGHEST, HIGHEST), ("two", 2, 0, 1, 1), ("two", 0, 1, 1, 1),
                     ("two", 1, 1, 1, 2), ("two", 1, 0, 3, 2), ("two", 1, 0, 1, 3), ("two", 1, 1, 2, 2)):
            self.assertEqual(last(*self.ready, call), [-2], call)

    def test_the_same_comes_ahead_of_of_nothing(self):
        self.assertEqual(last(*self.ready, ("two", 1, 0, 2, 2)), [-22])

    def test_the_same_comes_ahead_of_cannot_be(self):
        self.assertEqual(last(*self.ready, ("two", 0, 0, 2, 2)), [-22])

    def test_the_same_is_refused_where_the_mix_fits_already(self):
        self.assertEqual(last(*stood(300, FAT, (110, 0, 0, 0), 10), ("two", 0, 0, 0, 0)), [-22])

    def test_of_nothing_comes_ahead_of_cannot_be(self):
        self.assertEqual(last(*self.ready, ("two", 1, 0, 0, 2)), [-6])

    def test_a_mix_drawn_to_nothing(self):
        self.assertEqual(last(*self.ready, ("draw", 0, 10), ("two", 0, 0, 1, 2)), [-6])


class AgainstTrying(unittest.TestCase):
    """The answer is the one that is found when all shares are tried, one behind another."""

    def some_case(self, source):
        things = []
        for each in range(3):
            grams = [source.choice((0, source.randint(0, 333), 300)) for place in range(3)]
            things.append((*grams, source.randint(0, 9)))
        # Windows about what is had by some shares, so that there's often a way.
        shares = [source.randint(1, 9), source.randint(0, 9), source.randint(0, 9)]
        aim = [sum(share * thing[place] for share, thing in zip(shares, things)) // sum(shares) for place in range(3)]
        six = []
        for grams in (aim[0], sum(aim), aim[2]):
            width = source.choice((0, 4, 15, 60, 200))
            six += [max(0, grams - width), min(1000, grams + source.choice((1, 2, width)))]
        room = source.choice((9, 25, 40))
        return room, six, things, source.randint(1, 9), [source.randint(0, 30), source.randint(0, 30)]

    def test_as_when_all_shares_are_tried(self):
        source = random.Random(11)
        found = {}
        for each in range(600):
            room, six, things, kilograms, stocks = self.some_case(source)
            told = two(room, six, things[0], kilograms, (*things[1], stocks[0]), (*things[2], stocks[1]))
            has = more([0] * 5, things[0], kilograms)
            wanted = tried_two(has, six, things[1], things[2], stocks, room - kilograms)
            self.assertEqual(told, [-33] if wanted is None else wanted, (room, six, things, kilograms, stocks))
            kind = told if told == [-33] else [min(share, 1) for share in told]
            found[tuple(kind)] = found.get(tuple(kind), 0) + 1
        for kind in ((-33,), (0, 0, 0), (1, 0, 1), (1, 1, 0), (1, 1, 1)):
            self.assertGreater(found.get(kind, 0), 10, found)

    def test_with_a_room_of_300(self):
        things = [(0, 0, 0, 0), (313, 89, 41, 3), (11, 97, 401, 5)]
        six = [103, 104, 317, 322, 193, 197]
        for kilograms in (1, 17, 100, 111):
            told = two(300, six, things[0], kilograms, (*things[1], 180), (*things[2], 250))
            wanted = tried_two(more([0] * 5, things[0], kilograms), six, things[1], things[2], (180, 250), 300 - kilograms)
            self.assertEqual(told, [-33] if wanted is None else wanted, kilograms)

    def test_added_it_is_as_wanted(self):
        ready = stood(300, FAT_AND_SUGAR, WATER, 10, (*BUTTER, 99), (*SUGAR, 99))
        shares = last(*ready, ("two", 0, 0, 1, 2))
        told = answered(*ready, ("fits", 0, 0), ("add", 0, 1, shares[1]), ("add", 0, 2, shares[2]), ("fits", 0, 0))
        self.assertEqual([told[-4], told[-1]], [[1], [0]])
        self.assertTrue(suits(told[-2], FAT_AND_SUGAR))


if __name__ == "__main__":
    unittest.main()
