"""What holds, whatever is called: shown on lines made up from a fixed seed."""

import random
import unittest

from lines import HIGHEST, answered, last, probes

LINES = 150


def some_number(source, usual):
    """Mostly one that's there, now and then one that is not."""
    if source.random() < 0.06:
        return source.choice((usual, usual + 1, HIGHEST))
    return source.randrange(max(usual, 1))


def some_amount(source, most):
    return source.choice((0, 1, 1, 2, 3, source.randint(1, most), source.randint(1, most), HIGHEST))


def some_six(source):
    six = []
    for window in range(3):
        six.extend(sorted((source.randint(0, 400), source.randint(0, 1000))))
    return source.choice((six, six, six, six[:5], six + [1], six[::-1], [], [0, 1001] * 3))


def some_thing(source):
    grams = [source.randint(0, 340) for each in range(3)]
    return ("thing", *grams, source.choice((0, 3, 17, 1000, 1001)))


def some_call(source, room):
    number = some_number
    return source.choice((
        lambda: some_thing(source),
        lambda: ("buy", number(source, 5), source.choice((0, 1, 7, 50, 10000, 10001))),
        lambda: ("mix",),
        lambda: ("recipe", some_six(source)),
        lambda: ("add", number(source, 4), number(source, 5), some_amount(source, room)),
        lambda: ("add", number(source, 4), number(source, 5), some_amount(source, room)),
        lambda: ("pour", number(source, 4), number(source, 4), some_amount(source, room)),
        lambda: ("pour", number(source, 4), number(source, 4), some_amount(source, room)),
        lambda: ("draw", number(source, 4), some_amount(source, room)),
        lambda: ("fits", number(source, 4), number(source, 3)),
        lambda: ("which", number(source, 4)),
    ))()


def some_line(seed):
    source = random.Random(seed)
    room = source.choice((1, 2, 7, 30, 299, 300))
    calls = [("begin", room)]
    calls.extend(some_thing(source) for each in range(3))
    calls.extend([("mix",), ("mix",), ("buy", 0, 400), ("buy", 1, 400)])
    calls.extend(some_call(source, room) for each in range(120))
    if seed % 5 == 0:
        calls.insert(60, ("begin", source.choice((0, 301, 5, 300))))
    return calls


class RefusedChangesNothing(unittest.TestCase):
    def test_a_line_without_what_it_refused_answers_alike(self):
        refusals = {}
        for seed in range(LINES):
            calls = some_line(seed) + probes(8, 6, 6)
            told = answered(*calls)
            kept = [number for number, answer in enumerate(told) if answer[0] >= 0]
            again = answered(*[calls[number] for number in kept])
            self.assertEqual(again, [told[number] for number in kept], seed)
            for call, answer in zip(calls, told):
                if answer[0] < 0:
                    refusals[call[0], answer[0]] = True
        for pair in (("begin", -22), ("thing", -22), ("thing", -28), ("buy", -2), ("buy", -22), ("mix", -28),
                     ("recipe", -22), ("recipe", -28), ("add", -2), ("add", -22), ("add", -12), ("add", -28),
                     ("pour", -2), ("pour", -22), ("pour", -12), ("pour", -28), ("draw", -2), ("draw", -22),
                     ("draw", -12), ("fits", -2), ("fits", -6), ("which", -2), ("which", -6)):
            self.assertIn(pair, refusals)

    def test_a_refusal_stands_alone(self):
        for seed in range(LINES):
            for call, answer in zip(some_line(seed), answered(*some_line(seed))):
                if answer[0] < 0:
                    self.assertEqual(len(answer), 1, call)


class NothingIsLost(unittest.TestCase):
    def whole(self, seed):
        """A line without a second begin, with everything drawn at the end."""
        calls = [call for number, call in enumerate(some_line(seed)) if number == 0 or call[0] != "begin"]
        drawn = [("draw", mix, amount) for mix in range(6) for amount in (256, 128, 64, 32, 16, 8, 4, 2, 1)]
        return calls + drawn

    def test_all_that_was_added_is_drawn_in_the_end_to_the_gram(self):
        for seed in range(LINES):
            calls = self.whole(seed)
            things = []
            added = [0] * 5
            drawn = [0] * 5
            for call, answer in zip(calls, answered(*calls)):
                if answer[0] < 0:
                    continue
                if call[0] == "thing":
                    things.append((1, *call[1:]))
                if call[0] == "add":
                    added = [before + call[3] * each for before, each in zip(added, things[call[2]])]
                if call[0] == "draw":
                    drawn = [before + each for before, each in zip(drawn, answer)]
            self.assertEqual(drawn, added, seed)

    def test_every_kilogram_bought_is_in_stock_or_drawn_in_the_end(self):
        for seed in range(LINES):
            calls = self.whole(seed) + [("buy", thing, 1) for thing in range(8)]
            told = answered(*calls)
            bought = sum(call[2] for call, answer in zip(calls, told) if call[0] == "buy" and answer[0] >= 0)
            drawn = sum(call[2] for call, answer in zip(calls, told) if call[0] == "draw" and answer[0] >= 0)
            stock = sum(answer[0] for answer in told[-8:] if answer[0] >= 0)
            self.assertEqual(stock + drawn, bought, seed)

    def test_pouring_keeps_the_sum(self):
        for amount in range(1, 14):
            told = answered(
                ("begin", 40), ("thing", 101, 203, 307, 11), ("thing", 7, 0, 13, 5), ("buy", 0, 20), ("buy", 1, 20),
                ("mix",), ("mix",), ("add", 0, 0, 5), ("add", 0, 1, 8), ("add", 1, 0, 2), ("pour", 0, 1, amount),
                ("draw", 1, amount + 2), ("draw", 0, 13 - amount),
            )
            rest = [0] * 5 if amount == 13 else told[-1]
            whole = [before + other for before, other in zip(told[8], told[9])]
            self.assertEqual([each + other for each, other in zip(told[-2], rest)], whole, amount)


class FittingHolds(unittest.TestCase):
    things = [("thing", 120, 180, 160, 3), ("thing", 90, 170, 200, 5), ("thing", 0, 0, 0, 0)]
    recipes = [[90, 120, 300, 500, 150, 210], [120, 120, 460, 460, 160, 160], [80, 100, 300, 470, 0, 200],
               [0, 60, 0, 300, 0, 1000], [0, 1000, 0, 230, 0, 1000], [0, 1000, 0, 1000, 81, 1000]]

    def ready(self):
        calls = [("begin", 300), *self.things]
        calls.extend(("buy", thing, 300) for thing in range(3))
        calls.extend(("recipe", six) for six in self.recipes)
        return calls + [("mix",), ("mix",)]

    def filled(self, mix, shares):
        return [("add", mix, thing, amount) for thing, amount in enumerate(shares) if amount > 0]

    def verdicts(self, *calls):
        return answered(*self.ready(), *calls, *[("fits", 0, number) for number in range(6)])[-6:]

    def test_as_many_times_as_much_fits_as_well(self):
        for shares in ((1, 0, 0), (0, 1, 0), (1, 1, 0), (2, 1, 1), (1, 2, 3), (0, 0, 1), (3, 0, 4)):
            once = self.verdicts(*self.filled(0, shares))
            for many in (2, 3, 10, 37):
                more = self.filled(0, [share * many for share in shares])
                self.assertEqual(self.verdicts(*more), once, (shares, many))

    def test_two_that_fit_fit_together(self):
        fitting = 0
        kinds = [(1, 0, 0), (0, 1, 0), (3, 1, 0), (1, 5, 1), (2, 2, 1), (4, 7, 0)]
        for first in kinds:
            for second in kinds:
                one = self.verdicts(*self.filled(0, first))
                other = self.verdicts(*self.filled(0, second))
                both = self.verdicts(*self.filled(0, first), *self.filled(1, second), ("pour", 1, 0, sum(second)))
                for number in range(6):
                    if one[number] == [0] and other[number] == [0]:
                        fitting += 1
                        self.assertEqual(both[number], [0], (first, second, number))
        self.assertGreater(fitting, 20)

    def test_what_a_mix_costs_does_not_matter(self):
        for price in (0, 1, 1000):
            told = last(("begin", 9), ("thing", 100, 100, 100, price), ("buy", 0, 9), ("mix",), ("add", 0, 0, 9),
                        ("recipe", [100, 100, 300, 300, 100, 100]), ("fits", 0, 0))
            self.assertEqual(told, [0])


if __name__ == "__main__":
    unittest.main()
