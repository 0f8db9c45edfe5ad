import unittest

from lines import answered, last


def filled(*mixes, room=300):
    """Mixes, each told by its parts: pairs of a price and how many kilograms at that price."""
    prices = sorted({price for parts in mixes for price, amount in parts})
    calls = [("begin", room)]
    for number, price in enumerate(prices):
        calls += [("thing", 1, 1, 1, price), ("buy", number, 2000)]
    for mix, parts in enumerate(mixes):
        calls.append(("mix",))
        calls.extend(("add", mix, prices.index(price), amount) for price, amount in parts)
    return calls


def dear(*mixes):
    return last(*filled(*mixes), ("dear",))


class Dear(unittest.TestCase):
    def test_the_mix_what_it_costs_its_kilograms(self):
        self.assertEqual(dear([(3, 2)], [(7, 4)], [(5, 9)]), [1, 28, 4])

    def test_a_kilogram_counts_not_the_whole(self):
        self.assertEqual(dear([(10, 300)], [(11, 1)]), [1, 11, 1])
        self.assertEqual(dear([(11, 1)], [(10, 300)]), [0, 11, 1])

    def test_one_mix(self):
        self.assertEqual(dear([(3, 2), (4, 5)]), [0, 26, 7])

    def test_in_each_place(self):
        for place in range(6):
            mixes = [[(5, 3)] for each in range(6)]
            mixes[place] = [(6, 2)]
            self.assertEqual(dear(*mixes), [place, 12, 2], place)

    def test_of_alike_ones_the_first(self):
        self.assertEqual(dear([(5, 3)], [(5, 3)], [(5, 3)]), [0, 15, 3])
        self.assertEqual(dear([(5, 300)], [(5, 1)]), [0, 1500, 300])
        self.assertEqual(dear([(5, 1)], [(5, 300)]), [0, 5, 1])
        self.assertEqual(dear([(1, 1)], [(4, 2), (6, 2)], [(5, 7)]), [1, 20, 4])
        # 7 in 3 kilograms is as much as 14 in 6.
        self.assertEqual(dear([(2, 4), (3, 2)], [(2, 2), (3, 1)]), [0, 14, 6])

    def test_by_less_than_one(self):
        # 1000 in 299 is more than 1000 in 300, both 3 when they are rounded.
        self.assertEqual(dear([(1000, 1), (0, 299)], [(1000, 1), (0, 298)]), [1, 1000, 299])
        self.assertEqual(dear([(1000, 1), (0, 298)], [(1000, 1), (0, 299)]), [0, 1000, 299])
        # 1 in 3, 1 in 2, 2 in 5: none is a whole one.
        self.assertEqual(dear([(1, 1), (0, 2)], [(1, 1), (0, 1)], [(1, 2), (0, 3)]), [1, 1, 2])
        # They differ by one part in 89700.
        self.assertEqual(dear([(1, 299), (0, 1)], [(1, 298), (0, 1)]), [0, 299, 300])
        self.assertEqual(dear([(1, 298), (0, 1)], [(1, 299), (0, 1)]), [1, 299, 300])

    def test_of_nothing_are_left_out(self):
        self.assertEqual(dear([], [(5, 3)], []), [1, 15, 3])
        self.assertEqual(dear([], [], [(5, 3)], [], [(6, 1)], []), [4, 6, 1])
        self.assertEqual(dear([(6, 1)], [], [(5, 3)], []), [0, 6, 1])

    def test_that_cost_nothing(self):
        self.assertEqual(dear([], [(0, 3)], [(0, 5)]), [1, 0, 3])
        self.assertEqual(dear([(0, 3)], [(1, 1), (0, 299)]), [1, 1, 300])

    def test_all_are_of_nothing(self):
        self.assertEqual(last(("begin", 5), ("dear",)), [-6])
        self.assertEqual(dear([]), [-6])
        self.assertEqual(dear([], [], [], [], [], []), [-6])

    def test_a_mix_drawn_to_nothing(self):
        told = answered(*filled([(7, 2)], [(5, 3)]), ("dear",), ("draw", 0, 1), ("dear",), ("draw", 0, 1), ("dear",),
                        ("draw", 1, 3), ("dear",))
        self.assertEqual(told[-7::2], [[0, 14, 2], [0, 7, 1], [1, 15, 3], [-6]])

    def test_cost_that_does_not_divide(self):
        # 7 in 3 kilograms; 2 go with 1 drawn, and 5 in 2 are more than 7 in 3.
        told = answered(*filled([(2, 2), (3, 1)], [(2, 2), (3, 1)]), ("dear",), ("draw", 1, 1), ("dear",))
        self.assertEqual([told[-3], told[-1]], [[0, 7, 3], [1, 5, 2]])

    def test_poured(self):
        told = answered(*filled([(9, 2)], [(5, 2)], []), ("pour", 0, 2, 1), ("dear",), ("pour", 0, 1, 1), ("dear",))
        self.assertEqual([told[-3], told[-1]], [[0, 9, 1], [2, 9, 1]])

    def test_dearest_there_can_be(self):
        self.assertEqual(dear([(999, 300)], [(1000, 300)]), [1, 300000, 300])

    def test_room_for_one_kilogram(self):
        self.assertEqual(last(*filled([(3, 1)], [(4, 1)], room=1), ("dear",)), [1, 4, 1])

    def test_changes_nothing(self):
        looks = [("look", 0), ("look", 1), ("of", 0), ("sums",), ("state",), ("dear",)]
        for ready in (filled([(3, 2)], [(7, 4)]), filled([(3, 2)], []) + [("draw", 0, 2)]):
            wanted = answered(*ready, *looks)[-6:]
            self.assertEqual(answered(*ready, ("dear",), ("dear",), *looks)[-6:], wanted)


if __name__ == "__main__":
    unittest.main()
