import random
import unittest

from lines import HIGHEST, last, more, stood, tried_one

ANY = (0, 1000)
WATER = (0, 0, 0, 0)
FAT = [100, 120, *ANY, *ANY]


def best(room, six, base, kilograms, *others):
    """What best says on a mix of so many kilograms of ingredient 0; the others are numbered from 1."""
    return last(*stood(room, six, base, kilograms, *others), ("best", 0, 0))


class Best(unittest.TestCase):
    def test_the_one_of_which_fewest_must_be_added(self):
        # 10 kilograms want 10 of 200, 4 of 400, 2 of 600.
        some = [(200, 0, 0, 1, 99), (400, 0, 0, 1, 99), (600, 0, 0, 1, 99)]
        self.assertEqual(best(300, FAT, WATER, 10, *some), [3, 2])
        self.assertEqual(best(300, FAT, WATER, 10, *reversed(some)), [1, 2])
        self.assertEqual(best(300, FAT, WATER, 10, some[0], some[2], some[1]), [2, 2])

    def test_fewer_kilograms_come_ahead_of_less_cost(self):
        self.assertEqual(best(300, FAT, WATER, 10, (400, 0, 0, 0, 99), (600, 0, 0, 1000, 99)), [2, 2])
        self.assertEqual(best(300, FAT, WATER, 10, (600, 0, 0, 1000, 99), (400, 0, 0, 0, 99)), [1, 2])

    def test_of_alike_ones_the_one_that_costs_less(self):
        for prices, wanted in (((5, 4), 2), ((4, 5), 1), ((1000, 999, 998), 3), ((3, 1, 2), 2), ((1, 0), 2), ((0, 1), 1),
                               ((2, 1, 1), 2), ((9, 8, 9, 8, 7, 7, 9), 5)):
            things = [(400, 0, 0, price, 99) for price in prices]
            self.assertEqual(best(300, FAT, WATER, 10, *things), [wanted, 4], prices)

    def test_alike_in_kilograms_though_not_the_same(self):
        # Of 600 and of 650 two are wanted as well.
        self.assertEqual(best(300, FAT, WATER, 10, (600, 0, 0, 5, 99), (650, 0, 0, 4, 99)), [2, 2])
        self.assertEqual(best(300, FAT, WATER, 10, (600, 0, 0, 4, 99), (650, 0, 0, 5, 99)), [1, 2])
        self.assertEqual(best(300, FAT, WATER, 10, (600, 0, 0, 4, 99), (650, 0, 0, 4, 99)), [1, 2])

    def test_alike_in_both_the_first(self):
        self.assertEqual(best(300, FAT, WATER, 10, *[(400, 0, 0, 5, 99)] * 7), [1, 4])

    def test_stock_does_not_matter_where_there_is_enough(self):
        self.assertEqual(best(300, FAT, WATER, 10, (400, 0, 0, 5, 4), (400, 0, 0, 5, 10000)), [1, 4])

    def test_those_by_which_it_cannot_be_are_left_out(self):
        for never in ((600, 0, 0, 0, 1), (600, 0, 0, 0, 0), (1000, 0, 0, 0, 99), (0, 0, 0, 0, 99), (0, 500, 500, 0, 99)):
            self.assertEqual(best(300, FAT, WATER, 10, never, (400, 0, 0, 5, 99)), [2, 4], never)
            self.assertEqual(best(300, FAT, WATER, 10, (400, 0, 0, 5, 99), never), [1, 4], never)

    def test_a_mix_that_fits_already(self):
        # None costs nothing, whatever its price: the first, though another is cheaper.
        for room in (10, 11, 300):
            told = best(room, FAT, (110, 0, 0, 1000), 10, (0, 0, 0, 0, 99), (110, 0, 0, 1, 99))
            self.assertEqual(told, [0, 0], room)

    def test_a_mix_that_fits_already_and_nothing_in_stock(self):
        self.assertEqual(best(300, FAT, (110, 0, 0, 1000), 10), [0, 0])
        self.assertEqual(best(10, FAT, (110, 0, 0, 1000), 10, (400, 0, 0, 0, 0)), [0, 0])

    def test_some_of_it_is_in_already(self):
        ready = [("begin", 300), ("thing", 0, 0, 0, 0), ("thing", 400, 0, 0, 7), ("buy", 0, 10), ("buy", 1, 20), ("mix",),
                 ("add", 0, 0, 10), ("recipe", FAT)]
        self.assertEqual(last(*ready, ("add", 0, 1, 1), ("best", 0, 0)), [1, 3])

    def test_fat_that_is_just_the_least(self):
        self.assertEqual(best(300, FAT, (100, 0, 0, 9), 10, (400, 0, 0, 1, 9)), [0, 0])
        self.assertEqual(best(300, FAT, WATER, 30, (400, 0, 0, 1, 99), (399, 0, 0, 0, 99)), [1, 10])

    def test_a_window_of_one_number(self):
        six = [100, 100, *ANY, *ANY]
        # 2 of 400 are as many as are wanted, of 600 none are.
        self.assertEqual(best(300, six, WATER, 6, (600, 0, 0, 1, 99), (400, 0, 0, 1, 99)), [2, 2])
        self.assertEqual(best(300, six, WATER, 7, (600, 0, 0, 1, 99), (400, 0, 0, 1, 99)), [-33])

    def test_an_ingredient_of_nothing(self):
        six = [*ANY, 0, 300, *ANY]
        self.assertEqual(best(300, six, (100, 200, 100, 5), 10, (0, 0, 0, 9, 99), (0, 10, 0, 1, 99)), [2, 4])
        self.assertEqual(best(300, six, (100, 200, 100, 5), 10, (0, 0, 0, 9, 99), (0, 100, 0, 1, 99)), [1, 4])

    def test_fat_comes_in_and_sugar_goes_out(self):
        six = [100, 1000, *ANY, 150, 1000]
        base = (0, 0, 200, 0)
        self.assertEqual(best(300, six, base, 10, (400, 0, 0, 1, 99), (350, 0, 100, 1, 99)), [2, 4])
        self.assertEqual(best(300, six, base, 10, (400, 0, 0, 1, 99), (300, 0, 100, 1, 99)), [2, 5])
        self.assertEqual(best(300, six, base, 10, (400, 0, 0, 1, 99), (300, 0, 50, 1, 99)), [2, 5])
        self.assertEqual(best(300, six, base, 10, (400, 0, 0, 1, 99), (300, 0, 49, 1, 99)), [-33])

    def test_each_argument_is_the_one_told(self):
        ready = stood(300, FAT, WATER, 10, (400, 0, 0, 7, 99), (200, 0, 0, 1, 99))
        ready += [("mix",), ("add", 1, 2, 5), ("recipe", [50, 1000, *ANY, *ANY]), ("recipe", [300, 380, *ANY, *ANY])]
        for call, wanted in ((("best", 0, 0), [1, 4]), (("best", 0, 1), [1, 2]), (("best", 0, 2), [1, 30]),
                             (("best", 1, 0), [-33]), (("best", 1, 1), [0, 0]), (("best", 1, 2), [1, 5])):
            self.assertEqual(last(*ready, call), wanted, call)


class StockAndRoom(unittest.TestCase):
    def test_stock_at_its_edge(self):
        for stock, wanted in ((4, [2, 4]), (3, [1, 10]), (0, [1, 10])):
            self.assertEqual(best(300, FAT, WATER, 10, (200, 0, 0, 1, 99), (400, 0, 0, 1, stock)), wanted, stock)
        self.assertEqual(best(300, FAT, WATER, 10, (200, 0, 0, 1, 9), (400, 0, 0, 1, 3)), [-33])

    def test_room_at_its_edge(self):
        for room, wanted in ((300, [1, 4]), (14, [1, 4]), (13, [-33]), (10, [-33])):
            self.assertEqual(best(room, FAT, WATER, 10, (400, 0, 0, 1, 99), (200, 0, 0, 1, 99)), wanted, room)

    def test_room_for_one_kilogram(self):
        self.assertEqual(best(1, FAT, (100, 0, 0, 1), 1, (400, 0, 0, 1, 99)), [0, 0])
        self.assertEqual(best(1, FAT, (99, 0, 0, 1), 1, (400, 0, 0, 1, 99)), [-33])

    def test_the_most_that_can_be_added(self):
        six = [299, 300, *ANY, *ANY]
        self.assertEqual(best(300, six, WATER, 1, (300, 0, 0, 1, 298), (300, 0, 0, 1, 299)), [2, 299])
        self.assertEqual(best(299, six, WATER, 1, (300, 0, 0, 1, 298), (300, 0, 0, 1, 299)), [-33])


class Refusals(unittest.TestCase):
    ready = stood(300, FAT, WATER, 10, (400, 0, 0, 7, 99)) + [("mix",), ("recipe", [1000, 1000, *ANY, *ANY])]

    def test_each_at_its_edge(self):
        for call, wanted in (
            (("best", 0, 0), [1, 4]), (("best", 1, 0), [-6]), (("best", 2, 0), [-2]), (("best", 0, 2), [-2]),
            (("best", 0, 1), [-33]), (("best", HIGHEST, 0), [-2]), (("best", 0, HIGHEST), [-2]),
            (("best", HIGHEST, HIGHEST), [-2]),
        ):
            self.assertEqual(last(*self.ready, call), wanted, call)

    def test_none_such_comes_ahead_of_of_nothing(self):
        self.assertEqual(last(*self.ready, ("best", 1, 2)), [-2])
        self.assertEqual(last(*self.ready, ("best", 1, HIGHEST)), [-2])

    def test_of_nothing_comes_ahead_of_cannot_be(self):
        self.assertEqual(last(*self.ready, ("best", 1, 1)), [-6])

    def test_a_mix_drawn_to_nothing(self):
        self.assertEqual(last(*self.ready, ("draw", 0, 10), ("best", 0, 0)), [-6])

    def test_no_ingredient_is_there(self):
        self.assertEqual(last(("begin", 9), ("mix",), ("recipe", FAT), ("best", 0, 0)), [-6])


class AgainstTrying(unittest.TestCase):
    def some_things(self, source):
        kinds = []
        for each in range(source.randint(2, 7)):
            grams = [source.choice((0, 100, 200, source.randint(0, 333))) for place in range(3)]
            kinds.append((*grams, source.randint(0, 2), source.randint(0, 30)))
        return kinds

    def some_six(self, source):
        six = []
        for most in (150, 500, 150):
            begin = source.randint(0, most)
            six += [source.choice((0, begin)), begin + source.choice((0, 30, 100, 500))]
        return six

    def test_as_when_all_numbers_are_tried(self):
        source = random.Random(5)
        found = {}
        for each in range(1500):
            things = self.some_things(source)
            six = self.some_six(source)
            room = source.choice((8, 20, 40))
            kilograms = source.randint(1, 8)
            base = things.pop(0)[:4]
            has = more([0] * 5, base, kilograms)
            ways = []
            for number, thing in enumerate([(*base, 0)] + things):
                amount = tried_one(has, six, thing[:4], min(thing[4], room - kilograms))
                alone = last(*stood(room, six, base, kilograms, *things), ("least", 0, 0, number))
                self.assertEqual(alone, [-33] if amount is None else [amount, amount * thing[3]], (room, six, base, thing))
                if amount is not None:
                    ways.append((amount, amount * thing[3], number))
            told = best(room, six, base, kilograms, *things)
            self.assertEqual(told, [min(ways)[2], min(ways)[0]] if ways else [-33], (room, six, base, things))
            kind = min(told[-1], 1), len([way for way in ways if way[0] == min(ways)[0]]) > 1
            found[kind] = found.get(kind, 0) + 1
        for kind in ((-33, False), (0, True), (1, False), (1, True)):
            self.assertGreater(found.get(kind, 0), 20, found)


if __name__ == "__main__":
    unittest.main()
