import unittest

from lines import HIGHEST, answered, last

BEGUN = [("begin", 300)]
EIGHT = BEGUN + [("thing", 0, 0, 0, 0)] * 8


class Thing(unittest.TestCase):
    def test_numbers_rise_from_0(self):
        told = answered(*BEGUN, *[("thing", 10, 20, 30, 40)] * 8)
        self.assertEqual(told[1:], [[0], [1], [2], [3], [4], [5], [6], [7]])

    def test_the_ninth_is_too_many(self):
        self.assertEqual(last(*EIGHT, ("thing", 0, 0, 0, 0)), [-28])
        self.assertEqual(answered(*EIGHT, ("thing", 1, 1, 1, 1), ("buy", 8, 1), ("buy", 7, 1))[-2:], [[-2], [1]])

    def test_grams_are_1000_at_most_together(self):
        for grams in [(1000, 0, 0), (0, 1000, 0), (0, 0, 1000), (333, 333, 334), (0, 0, 0), (500, 0, 500)]:
            self.assertEqual(last(*BEGUN, ("thing", *grams, 5)), [0], grams)
        for grams in [(1001, 0, 0), (0, 1001, 0), (0, 0, 1001), (334, 333, 334), (1, 1000, 0), (500, 1, 500),
                      (1000, 1000, 1000)]:
            self.assertEqual(last(*BEGUN, ("thing", *grams, 5)), [-22], grams)

    def test_price_is_1000_at_most(self):
        self.assertEqual(last(*BEGUN, ("thing", 1, 1, 1, 1000)), [0])
        self.assertEqual(last(*BEGUN, ("thing", 1, 1, 1, 0)), [0])
        self.assertEqual(last(*BEGUN, ("thing", 1, 1, 1, 1001)), [-22])

    def test_price_does_not_count_as_grams(self):
        self.assertEqual(last(*BEGUN, ("thing", 400, 300, 300, 1000)), [0])

    def test_highest_numbers(self):
        for place in range(4):
            given = [0, 0, 0, 0]
            given[place] = HIGHEST
            self.assertEqual(last(*BEGUN, ("thing", *given)), [-22], given)
        self.assertEqual(last(*BEGUN, ("thing", HIGHEST, HIGHEST, HIGHEST, HIGHEST)), [-22])

    def test_out_of_range_comes_ahead_of_too_many(self):
        self.assertEqual(last(*EIGHT, ("thing", 1001, 0, 0, 0)), [-22])
        self.assertEqual(last(*EIGHT, ("thing", 0, 0, 0, 1001)), [-22])

    def test_refused_adds_none(self):
        told = answered(*BEGUN, ("thing", 1001, 0, 0, 0), ("buy", 0, 1), ("thing", 1, 2, 3, 4), ("buy", 0, 1))
        self.assertEqual(told[1:], [[-22], [-2], [0], [1]])

    def test_none_in_stock_at_first(self):
        self.assertEqual(last(*BEGUN, ("thing", 1, 2, 3, 4), ("mix",), ("add", 0, 0, 1)), [-12])
        self.assertEqual(last(*BEGUN, ("thing", 1, 2, 3, 4), ("buy", 0, 1)), [1])


class Buy(unittest.TestCase):
    begun = BEGUN + [("thing", 1, 2, 3, 4), ("thing", 5, 6, 7, 8)]

    def test_answers_how_many_are_in_stock(self):
        told = answered(*self.begun, ("buy", 0, 5), ("buy", 0, 1), ("buy", 1, 7), ("buy", 0, 4))
        self.assertEqual(told[3:], [[5], [6], [7], [10]])

    def test_range(self):
        for amount in (1, 2, 9999, 10000):
            self.assertEqual(last(*self.begun, ("buy", 1, amount)), [amount])
        for amount in (0, 10001, HIGHEST):
            self.assertEqual(last(*self.begun, ("buy", 1, amount)), [-22], amount)

    def test_stock_itself_has_no_limit(self):
        self.assertEqual(answered(*self.begun, *[("buy", 0, 10000)] * 390)[-1], [3900000])

    def test_none_such(self):
        for ingredient in (2, 3, 8, HIGHEST):
            self.assertEqual(last(*self.begun, ("buy", ingredient, 1)), [-2], ingredient)

    def test_none_such_comes_first(self):
        for amount in (0, 10001, HIGHEST):
            self.assertEqual(last(*self.begun, ("buy", 2, amount)), [-2], amount)

    def test_refused_changes_no_stock(self):
        told = answered(
            *self.begun, ("buy", 0, 3), ("buy", 0, 0), ("buy", 0, 10001), ("buy", 2, 9), ("buy", 0, 1), ("buy", 1, 1),
        )
        self.assertEqual(told[3:], [[3], [-22], [-22], [-2], [4], [1]])

    def test_what_was_added_is_no_longer_in_stock(self):
        told = answered(*self.begun, ("buy", 0, 9), ("mix",), ("add", 0, 0, 4), ("buy", 0, 1), ("draw", 0, 4),
                        ("buy", 0, 1))
        self.assertEqual(told[-3:], [[6], [4, 4, 8, 12, 16], [7]])


if __name__ == "__main__":
    unittest.main()
