"""would, after, look, of and state."""

import unittest

from lines import HIGHEST, answered, last

# Three ingredients, the last of nothing; mix 0 has 4 kilograms, mix 1 has 2, mix 2 none; room for 20.
READY = [
    ("begin", 20),
    ("thing", 100, 200, 300, 7), ("thing", 10, 0, 1, 1000), ("thing", 0, 0, 0, 0),
    ("buy", 0, 9), ("buy", 1, 5),
    ("mix",), ("mix",), ("mix",),
    ("add", 0, 0, 4), ("add", 1, 1, 2),
]
FIRST = [4, 400, 800, 1200, 28]
SECOND = [2, 20, 0, 2, 2000]
NONE = [0, 0, 0, 0, 0]
STOCKS = [[5, 100, 200, 300, 7], [3, 10, 0, 1, 1000], [0, 0, 0, 0, 0]]
LOOKS = [("look", 0), ("look", 1), ("look", 2), ("of", 0), ("of", 1), ("of", 2), ("sums",), ("state",)]
LOOKED = [FIRST, SECOND, NONE, *STOCKS, [0, 14, 8, 6, 0], [3, 3, 0, 20]]


def then(*calls):
    return answered(*READY, *calls)[len(READY):]


class Tells(unittest.TestCase):
    def changes_nothing(self, calls):
        for call in calls:
            self.assertEqual(then(call, *LOOKS)[1:], LOOKED, call)
        self.assertEqual(then(*calls, *LOOKS)[len(calls):], LOOKED)


class Would(Tells):
    def test_what_it_would_have(self):
        self.assertEqual(then(("would", 0, 0, 3)), [[7, 700, 1400, 2100, 49]])
        self.assertEqual(then(("would", 0, 1, 2)), [[6, 420, 800, 1202, 2028]])
        self.assertEqual(then(("would", 1, 0, 1)), [[3, 120, 200, 302, 2007]])
        self.assertEqual(then(("would", 0, 2, 9)), [[13, 400, 800, 1200, 28]])

    def test_of_nothing(self):
        self.assertEqual(then(("would", 2, 0, 2), ("would", 2, 2, 2), ("would", 2, 0, 0)),
                         [[2, 200, 400, 600, 14], [2, 0, 0, 0, 0], NONE])

    def test_n_at_its_edges(self):
        told = then(("would", 0, 0, 0), ("would", 0, 0, 1), ("would", 0, 0, 299), ("would", 0, 0, 300), ("would", 0, 0, 301),
                    ("would", 0, 0, HIGHEST))
        self.assertEqual(told, [
            FIRST, [5, 500, 1000, 1500, 35], [303, 30300, 60600, 90900, 2121], [304, 30400, 60800, 91200, 2128],
            [-22], [-22],
        ])

    def test_300_whatever_the_room_is(self):
        for room in (1, 2, 299, 300):
            ready = [("begin", room), ("thing", 1, 2, 3, 4), ("mix",)]
            told = answered(*ready, ("would", 0, 0, 300), ("would", 0, 0, 301))
            self.assertEqual(told[-2:], [[300, 300, 600, 900, 1200], [-22]], room)

    def test_stock_is_not_looked_at(self):
        self.assertEqual(then(("add", 0, 1, 4), ("would", 0, 1, 4)), [[-12], [8, 440, 800, 1204, 4028]])
        self.assertEqual(then(("add", 0, 2, 1), ("would", 0, 2, 1)), [[-12], [5, 400, 800, 1200, 28]])

    def test_room_is_not_looked_at(self):
        full = [("buy", 0, 90), ("add", 0, 0, 16)]
        self.assertEqual(then(*full, ("add", 0, 0, 1), ("would", 0, 0, 1))[2:], [[-28], [21, 2100, 4200, 6300, 147]])

    def test_as_it_is_when_it_is_added(self):
        for amount in range(1, 6):
            self.assertEqual(then(("would", 1, 0, amount)), then(("add", 1, 0, amount)), amount)

    def test_refusals(self):
        for call, wanted in (
            (("would", 3, 0, 1), -2), (("would", 0, 3, 1), -2), (("would", HIGHEST, 0, 1), -2),
            (("would", 0, HIGHEST, 1), -2), (("would", 3, 0, 301), -2), (("would", 0, 3, 301), -2),
            (("would", 0, 3, 0), -2), (("would", HIGHEST, HIGHEST, HIGHEST), -2), (("would", 2, 2, 301), -22),
        ):
            self.assertEqual(then(call), [[wanted]], call)

    def test_changes_nothing(self):
        self.changes_nothing([("would", 0, 0, 3), ("would", 0, 0, 0), ("would", 0, 0, 300), ("would", 0, 0, 301),
                              ("would", 3, 0, 1), ("would", 2, 1, 1)])


class After(Tells):
    def test_what_the_other_would_have(self):
        self.assertEqual(then(("after", 0, 1, 3)), [[5, 320, 600, 902, 2021]])
        self.assertEqual(then(("after", 1, 0, 1)), [[5, 410, 800, 1201, 1028]])
        self.assertEqual(then(("after", 0, 2, 4)), [FIRST])
        self.assertEqual(then(("after", 0, 1, 4)), [[6, 420, 800, 1202, 2028]])

    def test_grams_that_do_not_divide(self):
        # 3 kilograms with 100, 200, 300 grams that cost 7.
        thin = [("buy", 2, 2), ("add", 2, 0, 1), ("add", 2, 2, 2)]
        told = then(*thin, ("after", 2, 1, 1), ("after", 2, 1, 2), ("after", 2, 1, 3))[3:]
        self.assertEqual(told, [[3, 53, 66, 102, 2002], [4, 86, 133, 202, 2004], [5, 120, 200, 302, 2007]])

    def test_n_at_its_edges(self):
        told = then(("after", 0, 1, 0), ("after", 0, 1, 1), ("after", 0, 1, 4), ("after", 0, 1, 5), ("after", 0, 1, HIGHEST))
        self.assertEqual(told, [[-22], [3, 120, 200, 302, 2007], [6, 420, 800, 1202, 2028], [-12], [-12]])

    def test_room_is_not_looked_at(self):
        full = [("buy", 2, 90), ("add", 1, 2, 18)]
        self.assertEqual(then(*full, ("pour", 0, 1, 1), ("after", 0, 1, 1), ("after", 0, 1, 4))[2:],
                         [[-28], [21, 120, 200, 302, 2007], [24, 420, 800, 1202, 2028]])

    def test_room_for_one_kilogram(self):
        ready = [("begin", 1), ("thing", 9, 8, 7, 6), ("buy", 0, 5), ("mix",), ("mix",), ("add", 0, 0, 1), ("add", 1, 0, 1)]
        self.assertEqual(answered(*ready, ("after", 0, 1, 1), ("would", 0, 0, 1))[-2:], [[2, 18, 16, 14, 12]] * 2)

    def test_as_it_is_when_it_is_poured(self):
        for amount in range(1, 5):
            self.assertEqual(then(("after", 0, 1, amount)), then(("pour", 0, 1, amount)), amount)

    def test_a_mix_of_nothing(self):
        self.assertEqual(then(("after", 2, 0, 1), ("after", 2, 0, 0)), [[-12], [-22]])
        self.assertEqual(then(("draw", 0, 4), ("after", 0, 1, 1), ("after", 1, 0, 2))[1:], [[-12], SECOND])

    def test_refusals(self):
        for call, wanted in (
            (("after", 3, 0, 1), -2), (("after", 0, 3, 1), -2), (("after", HIGHEST, 0, 1), -2),
            (("after", 0, HIGHEST, 1), -2), (("after", 3, 3, 1), -2), (("after", 0, 3, 0), -2), (("after", 3, 0, 0), -2),
            (("after", 0, 3, 9), -2), (("after", HIGHEST, HIGHEST, HIGHEST), -2), (("after", 0, 0, 1), -22),
            (("after", 0, 0, 5), -22), (("after", 2, 2, 1), -22), (("after", 0, 0, 0), -22), (("after", 1, 0, 3), -12),
        ):
            self.assertEqual(then(call), [[wanted]], call)

    def test_changes_nothing(self):
        self.changes_nothing([("after", 0, 1, 3), ("after", 0, 2, 4), ("after", 1, 0, 1), ("after", 0, 1, 0),
                              ("after", 0, 0, 1), ("after", 0, 1, 5), ("after", 0, 3, 1)])


class Look(Tells):
    def test_what_it_has(self):
        self.assertEqual(then(("look", 0), ("look", 1), ("look", 2)), [FIRST, SECOND, NONE])

    def test_what_is_left(self):
        told = then(("buy", 2, 2), ("add", 2, 0, 1), ("add", 2, 2, 2), ("draw", 2, 1), ("look", 2), ("pour", 2, 1, 1),
                    ("look", 2), ("look", 1))
        self.assertEqual([told[4], told[6], told[7]], [[2, 67, 134, 200, 5], [1, 34, 67, 100, 3], [3, 53, 67, 102, 2002]])

    def test_drawn_to_nothing(self):
        self.assertEqual(then(("draw", 0, 4), ("look", 0)), [FIRST, NONE])
        self.assertEqual(then(("draw", 0, 3), ("draw", 0, 1), ("look", 0))[-1], NONE)

    def test_the_answer_is_not_the_mix_itself(self):
        self.assertEqual(then(("look", 0), ("look", 0), ("look", 0)), [FIRST] * 3)

    def test_none_such(self):
        for mix in (3, 6, HIGHEST):
            self.assertEqual(then(("look", mix)), [[-2]], mix)
        self.assertEqual(answered(("begin", 1), ("look", 0), ("mix",), ("look", 0))[1:], [[-2], [0], NONE])

    def test_changes_nothing(self):
        self.changes_nothing([("look", 0), ("look", 2), ("look", 3)])


class Of(Tells):
    def test_stock_and_what_a_kilogram_has(self):
        self.assertEqual(then(("of", 0), ("of", 1), ("of", 2)), STOCKS)

    def test_none_in_stock_at_first(self):
        self.assertEqual(last(("begin", 1), ("thing", 1000, 0, 0, 1000), ("of", 0)), [0, 1000, 0, 0, 1000])

    def test_stock_rises_and_falls(self):
        told = then(("buy", 0, 10000), ("of", 0), ("add", 2, 0, 20), ("of", 0), ("draw", 2, 20), ("of", 0), ("add", 0, 0, 99),
                    ("of", 0))
        self.assertEqual([answer[0] for answer in told[1::2]], [10005, 9985, 9985, 9985])

    def test_none_such(self):
        for ingredient in (3, 8, HIGHEST):
            self.assertEqual(then(("of", ingredient)), [[-2]], ingredient)
        self.assertEqual(answered(("begin", 1), ("of", 0), ("thing", 1, 2, 3, 4), ("of", 0))[1:], [[-2], [0], [0, 1, 2, 3, 4]])

    def test_eight(self):
        things = [("thing", number, 10 + number, 20 + number, 30 + number) for number in range(8)]
        told = answered(("begin", 1), *things, *[("of", number) for number in range(9)])[9:]
        self.assertEqual(told, [[0, number, 10 + number, 20 + number, 30 + number] for number in range(8)] + [[-2]])

    def test_changes_nothing(self):
        self.changes_nothing([("of", 0), ("of", 2), ("of", 3)])


class State(Tells):
    def test_how_many_of_each(self):
        told = answered(("begin", 7), ("state",), ("mix",), ("mix",), ("mix",), ("thing", 0, 0, 0, 0), ("thing", 0, 0, 0, 0),
                        ("recipe", [0] * 6), ("state",))
        self.assertEqual([told[1], told[-1]], [[0, 0, 0, 7], [3, 2, 1, 7]])

    def test_full(self):
        told = last(("begin", 300), *[("mix",)] * 7, *[("thing", 0, 0, 0, 0)] * 9, *[("recipe", [0] * 6)] * 7, ("state",))
        self.assertEqual(told, [6, 8, 6, 300])

    def test_the_room_is_the_one_told(self):
        for room in (1, 2, 299, 300):
            self.assertEqual(last(("begin", room), ("state",)), [0, 0, 0, room])

    def test_what_is_in_a_mix_does_not_matter(self):
        self.assertEqual(then(("state",), ("draw", 0, 4), ("state",), ("add", 2, 0, 5), ("state",))[::2], [[3, 3, 0, 20]] * 3)

    def test_refused_are_not_counted(self):
        told = then(("thing", 1001, 0, 0, 0), ("recipe", []), ("begin", 0), ("begin", 301), ("state",))
        self.assertEqual(told[-1], [3, 3, 0, 20])

    def test_begin_again(self):
        self.assertEqual(then(("begin", 3), ("state",)), [[0], [0, 0, 0, 3]])

    def test_changes_nothing(self):
        self.changes_nothing([("state",)])


if __name__ == "__main__":
    unittest.main()
