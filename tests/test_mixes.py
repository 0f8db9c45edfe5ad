import unittest

from lines import HIGHEST, answered

# Three ingredients, the last of nothing; two mixes of nothing; room for 20.
READY = [
    ("begin", 20),
    ("thing", 100, 200, 300, 7), ("thing", 10, 0, 1, 1000), ("thing", 0, 0, 0, 0),
    ("buy", 0, 100), ("buy", 1, 5), ("buy", 2, 100),
    ("mix",), ("mix",),
]


def after(*calls):
    return answered(*READY, *calls)[len(READY):]


class Mix(unittest.TestCase):
    def test_numbers_rise_from_0(self):
        self.assertEqual(answered(("begin", 1), *[("mix",)] * 6)[1:], [[0], [1], [2], [3], [4], [5]])

    def test_the_seventh_is_too_many(self):
        told = answered(("begin", 1), *[("mix",)] * 8, ("which", 5), ("which", 6))
        self.assertEqual(told[-4:], [[-28], [-28], [-6], [-2]])

    def test_is_of_nothing(self):
        self.assertEqual(after(("which", 0), ("draw", 0, 1), ("add", 0, 2, 1)), [[-6], [-12], [1, 0, 0, 0, 0]])


class Add(unittest.TestCase):
    def test_what_it_has(self):
        told = after(("add", 0, 0, 3), ("add", 0, 1, 2), ("add", 1, 0, 1), ("add", 0, 0, 1))
        self.assertEqual(told, [
            [3, 300, 600, 900, 21], [5, 320, 600, 902, 2021], [1, 100, 200, 300, 7], [6, 420, 800, 1202, 2028],
        ])

    def test_an_ingredient_of_nothing_brings_kilograms_alone(self):
        self.assertEqual(after(("add", 0, 0, 1), ("add", 0, 2, 9))[-1], [10, 100, 200, 300, 7])

    def test_none_such(self):
        for call in [("add", 2, 0, 1), ("add", HIGHEST, 0, 1), ("add", 0, 3, 1), ("add", 0, HIGHEST, 1)]:
            self.assertEqual(after(call), [[-2]], call)

    def test_n_of_0(self):
        self.assertEqual(after(("add", 0, 0, 0)), [[-22]])

    def test_stock_at_its_edge(self):
        self.assertEqual(after(("add", 0, 1, 6), ("add", 0, 1, 5), ("add", 0, 1, 1)),
                         [[-12], [5, 50, 0, 5, 5000], [-12]])

    def test_room_at_its_edge(self):
        self.assertEqual(after(("add", 0, 2, 21), ("add", 0, 2, 20), ("add", 0, 2, 1)),
                         [[-28], [20, 0, 0, 0, 0], [-28]])
        self.assertEqual(after(("add", 0, 0, 15), ("add", 0, 2, 6), ("add", 0, 2, 5))[1:],
                         [[-28], [20, 1500, 3000, 4500, 105]])

    def test_highest_numbers(self):
        self.assertEqual(after(("add", 0, 0, HIGHEST)), [[-12]])
        self.assertEqual(after(("add", HIGHEST, HIGHEST, HIGHEST)), [[-2]])

    def test_order_of_refusals(self):
        self.assertEqual(after(("add", 2, 0, 0)), [[-2]])
        self.assertEqual(after(("add", 0, 3, 0)), [[-2]])
        self.assertEqual(after(("add", 2, 0, 101)), [[-2]])
        self.assertEqual(after(("add", 0, 0, 101)), [[-12]])
        self.assertEqual(after(("add", 0, 0, 20), ("add", 0, 1, 6))[-1], [-12])
        self.assertEqual(after(("add", 0, 0, 20), ("add", 0, 1, 0))[-1], [-22])

    def test_refused_changes_nothing(self):
        for call in [("add", 0, 0, 0), ("add", 0, 0, 98), ("add", 0, 0, 18), ("add", 2, 0, 1), ("add", 0, 3, 1)]:
            told = after(("add", 0, 0, 3), call, ("buy", 0, 1), ("draw", 0, 3))
            self.assertLess(told[1][0], 0)
            self.assertEqual(told[2:], [[98], [3, 300, 600, 900, 21]], call)


class RoomForOne(unittest.TestCase):
    ready = [("begin", 1), ("thing", 9, 8, 7, 6), ("buy", 0, 5), ("mix",), ("mix",)]

    def test_add(self):
        told = answered(*self.ready, ("add", 0, 0, 2), ("add", 0, 0, 1), ("add", 0, 0, 1))[5:]
        self.assertEqual(told, [[-28], [1, 9, 8, 7, 6], [-28]])

    def test_pour(self):
        told = answered(*self.ready, ("add", 0, 0, 1), ("pour", 0, 1, 1), ("pour", 0, 1, 1), ("add", 0, 0, 1),
                        ("pour", 0, 1, 1), ("draw", 1, 1), ("pour", 0, 1, 1))[6:]
        self.assertEqual(told, [
            [1, 9, 8, 7, 6], [-12], [1, 9, 8, 7, 6], [-28], [1, 9, 8, 7, 6], [1, 9, 8, 7, 6],
        ])


class Pour(unittest.TestCase):
    def test_what_the_other_has(self):
        told = after(("add", 0, 0, 4), ("add", 1, 1, 2), ("pour", 0, 1, 3), ("draw", 0, 1), ("draw", 1, 5))
        self.assertEqual(told[2:], [
            [5, 320, 600, 902, 2021], [1, 100, 200, 300, 7], [5, 320, 600, 902, 2021],
        ])

    def test_grams_that_do_not_divide(self):
        # 3 kilograms with 100, 200, 300 grams that cost 7: a kilogram's part is rounded down, the rest stays.
        told = after(("add", 0, 0, 1), ("add", 0, 2, 2), ("pour", 0, 1, 1), ("pour", 0, 1, 1), ("pour", 0, 1, 1))
        self.assertEqual(told[2:], [[1, 33, 66, 100, 2], [2, 66, 133, 200, 4], [3, 100, 200, 300, 7]])

    def test_part_is_multiplied_ahead_of_the_division(self):
        told = after(("add", 0, 0, 1), ("add", 0, 2, 2), ("pour", 0, 1, 2), ("draw", 0, 1))
        self.assertEqual(told[2:], [[2, 66, 133, 200, 4], [1, 34, 67, 100, 3]])

    def test_there_and_back(self):
        told = after(("add", 0, 0, 1), ("add", 0, 2, 6), ("pour", 0, 1, 3), ("pour", 1, 0, 3), ("which", 1))
        self.assertEqual(told[2:], [[3, 42, 85, 128, 3], [7, 100, 200, 300, 7], [-6]])

    def test_none_such(self):
        for call in [("pour", 2, 0, 1), ("pour", 0, 2, 1), ("pour", HIGHEST, 0, 1), ("pour", 0, HIGHEST, 1)]:
            self.assertEqual(after(("add", 0, 0, 5), call)[-1], [-2], call)

    def test_out_of_range(self):
        self.assertEqual(after(("add", 0, 0, 5), ("pour", 0, 1, 0))[-1], [-22])
        self.assertEqual(after(("add", 0, 0, 5), ("pour", 0, 0, 1))[-1], [-22])

    def test_kilograms_at_their_edge(self):
        told = after(("add", 0, 0, 5), ("pour", 0, 1, 6), ("pour", 0, 1, HIGHEST), ("pour", 0, 1, 5), ("pour", 0, 1, 1))
        self.assertEqual(told[1:], [[-12], [-12], [5, 500, 1000, 1500, 35], [-12]])

    def test_room_at_its_edge(self):
        told = after(("add", 0, 0, 5), ("add", 1, 2, 17), ("pour", 0, 1, 4), ("pour", 0, 1, 3), ("pour", 0, 1, 1))
        self.assertEqual(told[2:], [[-28], [20, 300, 600, 900, 21], [-28]])

    def test_the_first_may_be_full(self):
        self.assertEqual(after(("add", 0, 0, 20), ("pour", 0, 1, 20), ("pour", 1, 0, 20))[1:],
                         [[20, 2000, 4000, 6000, 140]] * 2)

    def test_order_of_refusals(self):
        full = [("add", 0, 0, 5), ("add", 1, 2, 20)]
        self.assertEqual(after(*full, ("pour", 2, 2, 1))[-1], [-2])
        self.assertEqual(after(*full, ("pour", 0, 2, 0))[-1], [-2])
        self.assertEqual(after(*full, ("pour", 2, 0, 0))[-1], [-2])
        self.assertEqual(after(*full, ("pour", 0, 2, 6))[-1], [-2])
        self.assertEqual(after(*full, ("pour", 0, 0, 6))[-1], [-22])
        self.assertEqual(after(*full, ("pour", 1, 1, 1))[-1], [-22])
        self.assertEqual(after(*full, ("pour", 0, 1, 0))[-1], [-22])
        self.assertEqual(after(*full, ("pour", 0, 1, 6))[-1], [-12])
        self.assertEqual(after(*full, ("pour", 0, 1, 5))[-1], [-28])

    def test_refused_changes_nothing(self):
        refused = [("pour", 0, 1, 0), ("pour", 0, 0, 2), ("pour", 0, 1, 6), ("pour", 0, 1, 4), ("pour", 0, 2, 1),
                   ("pour", 2, 0, 1)]
        for call in refused:
            told = after(("add", 0, 0, 5), ("add", 1, 2, 17), call, ("draw", 0, 5), ("draw", 1, 17))
            self.assertLess(told[2][0], 0)
            self.assertEqual(told[3:], [[5, 500, 1000, 1500, 35], [17, 0, 0, 0, 0]], call)


class Draw(unittest.TestCase):
    def test_what_the_part_had(self):
        told = after(("add", 0, 0, 4), ("draw", 0, 1), ("draw", 0, 2), ("draw", 0, 1))
        self.assertEqual(told[1:], [[1, 100, 200, 300, 7], [2, 200, 400, 600, 14], [1, 100, 200, 300, 7]])

    def test_grams_that_do_not_divide(self):
        told = after(("add", 0, 0, 1), ("add", 0, 2, 2), ("draw", 0, 1), ("draw", 0, 1), ("draw", 0, 1))
        self.assertEqual(told[2:], [[1, 33, 66, 100, 2], [1, 33, 67, 100, 2], [1, 34, 67, 100, 3]])

    def test_drawn_to_nothing(self):
        told = after(("recipe", [0, 1000] * 3), ("add", 0, 0, 4), ("draw", 0, 4), ("draw", 0, 1), ("pour", 0, 1, 1),
                     ("fits", 0, 0), ("which", 0), ("add", 0, 1, 1), ("fits", 0, 0))
        self.assertEqual(told[2:], [
            [4, 400, 800, 1200, 28], [-12], [-12], [-6], [-6], [1, 10, 0, 1, 1000], [0],
        ])

    def test_none_such(self):
        for mix in (2, 6, HIGHEST):
            self.assertEqual(after(("draw", mix, 1)), [[-2]], mix)

    def test_edges(self):
        told = after(("add", 0, 0, 4), ("draw", 0, 0), ("draw", 0, 5), ("draw", 0, HIGHEST), ("draw", 0, 4))
        self.assertEqual(told[1:], [[-22], [-12], [-12], [4, 400, 800, 1200, 28]])

    def test_order_of_refusals(self):
        self.assertEqual(after(("draw", 2, 0)), [[-2]])
        self.assertEqual(after(("draw", 2, HIGHEST)), [[-2]])
        self.assertEqual(after(("draw", 0, 0)), [[-22]])

    def test_the_other_mix_stays(self):
        told = after(("add", 0, 0, 4), ("add", 1, 0, 2), ("draw", 0, 3), ("draw", 1, 2))
        self.assertEqual(told[3], [2, 200, 400, 600, 14])

    def test_makes_room(self):
        told = after(("add", 0, 0, 20), ("draw", 0, 2), ("add", 0, 2, 3), ("add", 0, 2, 2))
        self.assertEqual(told[2:], [[-28], [20, 1800, 3600, 5400, 126]])

    def test_what_is_drawn_is_gone(self):
        # It goes back neither into stock nor into another mix.
        told = after(("add", 0, 1, 5), ("draw", 0, 5), ("add", 0, 1, 1), ("which", 1))
        self.assertEqual(told[2:], [[-12], [-6]])


if __name__ == "__main__":
    unittest.main()
