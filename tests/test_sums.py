import unittest

from lines import HIGHEST, answered, last

READY = [("begin", 20), ("thing", 100, 200, 300, 7), ("thing", 0, 0, 0, 0), ("mix",), ("mix",), ("recipe", [0, 1000] * 3)]


def summed(*calls):
    """What sums says behind each of these calls."""
    line = list(READY)
    for call in calls:
        line += [call, ("sums",)]
    return answered(*line)[len(READY) + 1::2]


class Sums(unittest.TestCase):
    def test_at_first(self):
        self.assertEqual(last(("begin", 1), ("sums",)), [0, 0, 0, 0, 0])
        self.assertEqual(last(*READY, ("sums",)), [0, 0, 0, 0, 0])

    def test_bought(self):
        self.assertEqual(summed(("buy", 0, 5), ("buy", 1, 10000), ("buy", 0, 1)),
                         [[0, 5, 5, 0, 0], [0, 10005, 10005, 0, 0], [0, 10006, 10006, 0, 0]])

    def test_added(self):
        self.assertEqual(summed(("buy", 0, 9), ("add", 0, 0, 4), ("buy", 1, 3), ("add", 0, 1, 3), ("add", 1, 0, 5)),
                         [[0, 9, 9, 0, 0], [0, 9, 5, 4, 0], [0, 12, 8, 4, 0], [0, 12, 5, 7, 0], [0, 12, 0, 12, 0]])

    def test_poured(self):
        self.assertEqual(summed(("buy", 0, 9), ("add", 0, 0, 7), ("pour", 0, 1, 3), ("pour", 1, 0, 1), ("pour", 0, 1, 5)),
                         [[0, 9, 9, 0, 0]] + [[0, 9, 2, 7, 0]] * 4)

    def test_drawn(self):
        self.assertEqual(summed(("buy", 0, 9), ("add", 0, 0, 7), ("draw", 0, 3), ("draw", 0, 4), ("add", 1, 0, 2),
                                ("draw", 1, 1), ("buy", 0, 1)),
                         [[0, 9, 9, 0, 0], [0, 9, 2, 7, 0], [0, 9, 2, 4, 3], [0, 9, 2, 0, 7], [0, 9, 0, 2, 7],
                          [0, 9, 0, 1, 8], [0, 10, 1, 1, 8]])

    def test_refused(self):
        before = [("buy", 0, 30), ("add", 0, 0, 7), ("add", 1, 0, 15), ("draw", 0, 1)]
        refused = [
            ("buy", 0, 0), ("buy", 0, 10001), ("buy", 2, 1), ("buy", HIGHEST, 5), ("buy", 0, HIGHEST),
            ("add", 0, 0, 0), ("add", 0, 0, 9), ("add", 1, 0, 6), ("add", 2, 0, 1), ("add", 0, 2, 1), ("add", 0, 0, HIGHEST),
            ("pour", 0, 1, 6), ("pour", 0, 1, 0), ("pour", 0, 0, 1), ("pour", 0, 1, 7), ("pour", 0, 2, 1), ("pour", 2, 0, 1),
            ("draw", 0, 0), ("draw", 0, 7), ("draw", 2, 1), ("draw", 0, HIGHEST), ("draw", HIGHEST, 1),
            ("begin", 0), ("begin", 301), ("begin", HIGHEST), ("thing", 1001, 0, 0, 0), ("recipe", []),
        ]
        answers = answered(*READY, *before, *refused)[-len(refused):]
        self.assertTrue(all(answer[0] < 0 for answer in answers), answers)
        self.assertEqual(summed(*before, *refused)[3:], [[0, 30, 8, 21, 1]] * (len(refused) + 1))

    def test_told_only(self):
        before = [("buy", 0, 9), ("add", 0, 0, 7), ("draw", 0, 3)]
        telling = [("fits", 0, 0), ("which", 0), ("least", 0, 0, 0), ("two", 0, 0, 0, 1), ("best", 0, 0),
                   ("would", 0, 0, 300), ("after", 0, 1, 2), ("look", 0), ("of", 0), ("dear",), ("sums",), ("state",)]
        self.assertEqual(summed(*before, *telling)[2:], [[0, 9, 2, 4, 3]] * (len(telling) + 1))

    def test_a_second_begin(self):
        before = [("buy", 0, 9), ("add", 0, 0, 7), ("draw", 0, 3)]
        told = summed(*before, ("begin", 5), ("thing", 1, 1, 1, 1), ("mix",), ("buy", 0, 6), ("add", 0, 0, 4), ("draw", 0, 1))
        self.assertEqual(told[3:], [[0, 0, 0, 0, 0]] * 3 + [[0, 6, 6, 0, 0], [0, 6, 2, 4, 0], [0, 6, 2, 3, 1]])

    def test_a_second_begin_that_is_refused(self):
        before = [("buy", 0, 9), ("add", 0, 0, 7), ("draw", 0, 3)]
        self.assertEqual(summed(*before, ("begin", 0), ("begin", 301), ("buy", 0, 1))[3:],
                         [[0, 9, 2, 4, 3], [0, 9, 2, 4, 3], [0, 10, 3, 4, 3]])

    def test_all_is_drawn(self):
        self.assertEqual(summed(("buy", 0, 5), ("add", 0, 0, 5), ("draw", 0, 5))[-1], [0, 5, 0, 0, 5])

    def test_no_limit(self):
        told = last(*READY, *[("buy", 0, 10000)] * 200, *[("buy", 1, 10000)] * 190, ("sums",))
        self.assertEqual(told, [0, 3900000, 3900000, 0, 0])


if __name__ == "__main__":
    unittest.main()
