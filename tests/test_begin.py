import unittest

from lines import HIGHEST, answered, last

OTHERS = [
    ("thing", 1, 1, 1, 1),
    ("buy", 0, 1),
    ("mix",),
    ("recipe", [0, 1000, 0, 1000, 0, 1000]),
    ("add", 0, 0, 1),
    ("pour", 0, 1, 1),
    ("draw", 0, 1),
    ("fits", 0, 0),
    ("which", 0),
    ("least", 0, 0, 0),
    ("two", 0, 0, 0, 1),
    ("best", 0, 0),
    ("would", 0, 0, 1),
    ("after", 0, 1, 1),
    ("look", 0),
    ("of", 0),
    ("dear",),
    ("sums",),
    ("state",),
]

# Each would be refused otherwise too, if it were begun.
WRONG_OTHERS = [
    ("thing", HIGHEST, HIGHEST, HIGHEST, HIGHEST),
    ("buy", HIGHEST, 0),
    ("recipe", []),
    ("recipe", [HIGHEST] * 8),
    ("add", HIGHEST, HIGHEST, 0),
    ("pour", HIGHEST, HIGHEST, 0),
    ("draw", HIGHEST, 0),
    ("fits", HIGHEST, HIGHEST),
    ("which", HIGHEST),
    ("least", HIGHEST, HIGHEST, HIGHEST),
    ("two", HIGHEST, HIGHEST, HIGHEST, HIGHEST),
    ("two", 0, 0, 0, 0),
    ("best", HIGHEST, HIGHEST),
    ("would", HIGHEST, HIGHEST, HIGHEST),
    ("after", HIGHEST, HIGHEST, 0),
    ("look", HIGHEST),
    ("of", HIGHEST),
]

FILLED = [
    ("begin", 10),
    ("thing", 100, 200, 300, 7),
    ("buy", 0, 20),
    ("mix",),
    ("mix",),
    ("recipe", [100, 100, 600, 600, 300, 300]),
    ("add", 0, 0, 4),
]


class Begin(unittest.TestCase):
    def test_in_range(self):
        for room in (1, 2, 150, 299, 300):
            self.assertEqual(last(("begin", room)), [0], room)

    def test_out_of_range(self):
        for room in (0, 301, 1000, HIGHEST):
            self.assertEqual(last(("begin", room)), [-22], room)

    def test_told_room_is_the_mixes_room(self):
        for room in (1, 2, 299, 300):
            filled = answered(
                ("begin", room), ("thing", 0, 0, 0, 0), ("buy", 0, 1000), ("mix",),
                ("add", 0, 0, room + 1), ("add", 0, 0, room), ("add", 0, 0, 1),
            )
            self.assertEqual(filled[4:], [[-28], [room, 0, 0, 0, 0], [-28]])

    def test_there_is_nothing_after_it(self):
        told = answered(
            ("begin", 5), ("buy", 0, 1), ("add", 0, 0, 1), ("draw", 0, 1), ("which", 0), ("fits", 0, 0),
            ("least", 0, 0, 0), ("two", 0, 0, 0, 1), ("best", 0, 0), ("would", 0, 0, 1), ("after", 0, 1, 1), ("look", 0),
            ("of", 0), ("dear",), ("sums",), ("state",), ("thing", 0, 0, 0, 0), ("mix",), ("recipe", [0] * 6),
        )
        self.assertEqual(told, [[0], *[[-2]] * 12, [-6], [0, 0, 0, 0, 0], [0, 0, 0, 5], [0], [0], [0]])


class BeforeBegin(unittest.TestCase):
    def test_all_others_are_refused(self):
        for call in OTHERS + WRONG_OTHERS:
            self.assertEqual(last(call), [-11], call)

    def test_all_others_in_one_line(self):
        self.assertEqual(answered(*OTHERS, *WRONG_OTHERS), [[-11]] * (len(OTHERS) + len(WRONG_OTHERS)))

    def test_a_refused_begin_begins_nothing(self):
        for room in (0, 301, HIGHEST):
            for call in OTHERS + WRONG_OTHERS:
                self.assertEqual(answered(("begin", room), call), [[-22], [-11]], call)

    def test_what_was_refused_left_nothing(self):
        told = answered(*OTHERS, ("begin", 3), ("thing", 0, 0, 0, 0), ("mix",), ("recipe", [0] * 6))
        self.assertEqual(told[-4:], [[0], [0], [0], [0]])


class BeginAgain(unittest.TestCase):
    def test_in_range_leaves_nothing(self):
        told = answered(
            *FILLED, ("begin", 10),
            ("buy", 0, 1), ("which", 0), ("draw", 0, 1), ("fits", 0, 0),
            ("thing", 1, 2, 3, 4), ("mix",), ("recipe", [0, 1000] * 3),
            ("which", 0), ("draw", 0, 1), ("add", 0, 0, 1), ("buy", 0, 1), ("which", 1), ("fits", 0, 1),
        )[len(FILLED):]
        self.assertEqual(told, [
            [0], [-2], [-2], [-2], [-2], [0], [0], [0], [-6], [-12], [-12], [1], [-2], [-2],
        ])

    def test_nothing_is_left_to_be_told(self):
        told = answered(
            *FILLED, ("draw", 0, 1), ("begin", 10), ("sums",), ("state",), ("dear",), ("look", 0), ("of", 0),
            ("least", 0, 0, 0), ("two", 0, 0, 0, 1), ("best", 0, 0), ("would", 0, 0, 1), ("after", 0, 1, 1),
            ("mix",), ("thing", 1, 2, 3, 4), ("look", 0), ("of", 0), ("sums",), ("dear",),
        )[len(FILLED) + 1:]
        self.assertEqual(told, [
            [0], [0, 0, 0, 0, 0], [0, 0, 0, 10], [-6], *[[-2]] * 7,
            [0], [0], [0, 0, 0, 0, 0], [0, 1, 2, 3, 4], [0, 0, 0, 0, 0], [-6],
        ])

    def test_the_room_is_the_new_one(self):
        again = [("thing", 0, 0, 0, 0), ("buy", 0, 300), ("mix",)]
        self.assertEqual(last(("begin", 2), ("begin", 9), *again, ("add", 0, 0, 9)), [9, 0, 0, 0, 0])
        self.assertEqual(last(("begin", 9), ("begin", 2), *again, ("add", 0, 0, 3)), [-28])

    def test_out_of_range_leaves_all_as_it_was(self):
        asked = [
            ("sums",), ("state",), ("dear",), ("look", 0), ("of", 0),
            ("fits", 0, 0), ("which", 0), ("which", 1), ("buy", 0, 1), ("add", 0, 0, 7), ("add", 0, 0, 6),
            ("thing", 0, 0, 0, 0), ("mix",), ("recipe", [0] * 6), ("draw", 0, 10),
        ]
        wanted = [
            [0, 20, 16, 4, 0], [2, 1, 1, 10], [0, 28, 4], [4, 400, 800, 1200, 28], [16, 100, 200, 300, 7],
            [0], [1, 0], [-6], [17], [-28], [10, 1000, 2000, 3000, 70], [1], [2], [1], [10, 1000, 2000, 3000, 70],
        ]
        for room in (0, 301, HIGHEST):
            told = answered(*FILLED, ("begin", room), *asked)[len(FILLED):]
            self.assertEqual(told, [[-22]] + wanted, room)


if __name__ == "__main__":
    unittest.main()
