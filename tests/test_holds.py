"""What holds, whatever is called: shown on lines made up from a fixed seed."""

import random
import unittest
from fractions import Fraction

from lines import HIGHEST, ONLY_TELL, answered, last, more, probes, suits, tried_two

LINES = 150


def some_number(source, usual):
    """Mostly one that's there, now and then one that is not."""
    if source.random() < 0.06:
        return source.choice((usual, usual + 1, HIGHEST))
    return source.randrange(max(usual, 1))


def some_amount(source, most):
    return source.choice((0, 1, 1, 2, 3, source.randint(1, most), source.randint(1, most), HIGHEST))


def some_windows(source):
    six = []
    for window in range(3):
        narrow = sorted((source.randint(0, 400), source.randint(0, 1000)))
        six.extend(source.choice((narrow, [0, 1000])))
    return six


def some_six(source):
    six = some_windows(source)
    return source.choice((six, six, six, six[:5], six + [1], six[::-1], [], [0, 1001] * 3))


def some_thing(source):
    grams = [source.randint(0, 340) for each in range(3)]
    return ("thing", *grams, source.choice((0, 3, 17, 1000, 1001)))


def some_call(source, room):
    number = some_number
    return source.choice((
        lambda: some_thing(source),
        lambda: ("buy", number(source, 5), source.choice((0, 1, 7, 50, 10000, 10001))),
        lambda: ("mix",),
        lambda: ("recipe", some_six(source)),
        lambda: ("add", number(source, 4), number(source, 5), some_amount(source, room)),
        lambda: ("add", number(source, 4), number(source, 5), some_amount(source, room)),
        lambda: ("pour", number(source, 4), number(source, 4), some_amount(source, room)),
        lambda: ("pour", number(source, 4), number(source, 4), some_amount(source, room)),
        lambda: ("draw", number(source, 4), some_amount(source, room)),
        lambda: ("fits", number(source, 4), number(source, 3)),
        lambda: ("which", number(source, 4)),
        lambda: some_question(source),
        lambda: some_question(source),
        lambda: some_question(source),
    ))()


def some_question(source):
    number = some_number
    return source.choice((
        lambda: ("least", number(source, 4), number(source, 3), number(source, 5)),
        lambda: ("two", number(source, 4), number(source, 3), number(source, 5), number(source, 5)),
        lambda: ("best", number(source, 4), number(source, 3)),
        lambda: ("would", number(source, 4), number(source, 5), source.choice((0, 1, 299, 300, 301, HIGHEST))),
        lambda: ("after", number(source, 4), number(source, 4), some_amount(source, 9)),
        lambda: ("look", number(source, 4)),
        lambda: ("of", number(source, 5)),
        lambda: ("dear",),
        lambda: ("sums",),
        lambda: ("state",),
    ))()


def some_line(seed):
    source = random.Random(seed)
    room = source.choice((1, 2, 7, 30, 299, 300))
    calls = [("begin", room)]
    calls.extend(some_thing(source) for each in range(3))
    calls.extend([("mix",), ("mix",), ("buy", 0, 400), ("buy", 1, 400), ("recipe", some_windows(source))])
    calls.extend(("add", mix, mix, source.randint(1, room)) for mix in range(2))
    calls.extend(some_call(source, room) for each in range(120))
    if seed % 5 == 0:
        calls.insert(60, ("begin", source.choice((0, 301, 5, 300))))
    return calls


class RefusedChangesNothing(unittest.TestCase):
    def test_a_line_without_what_it_refused_answers_alike(self):
        refusals = {}
        for seed in range(LINES):
            calls = some_line(seed) + probes(8, 6, 6)
            told = answered(*calls)
            kept = [number for number, answer in enumerate(told) if answer[0] >= 0]
            again = answered(*[calls[number] for number in kept])
            self.assertEqual(again, [told[number] for number in kept], seed)
            for call, answer in zip(calls, told):
                if answer[0] < 0:
                    refusals[call[0], answer[0]] = True
        for pair in (("begin", -22), ("thing", -22), ("thing", -28), ("buy", -2), ("buy", -22), ("mix", -28),
                     ("recipe", -22), ("recipe", -28), ("add", -2), ("add", -22), ("add", -12), ("add", -28),
                     ("pour", -2), ("pour", -22), ("pour", -12), ("pour", -28), ("draw", -2), ("draw", -22),
                     ("draw", -12), ("fits", -2), ("fits", -6), ("which", -2), ("which", -6), ("least", -2),
                     ("least", -6), ("least", -33), ("two", -2), ("two", -22), ("two", -6), ("two", -33), ("best", -2),
                     ("best", -6), ("best", -33), ("would", -2), ("would", -22), ("after", -2), ("after", -22),
                     ("after", -12), ("look", -2), ("of", -2), ("dear", -6)):
            self.assertIn(pair, refusals)

    def test_a_refusal_stands_alone(self):
        for seed in range(LINES):
            for call, answer in zip(some_line(seed), answered(*some_line(seed))):
                if answer[0] < 0:
                    self.assertEqual(len(answer), 1, call)


class TellingChangesNothing(unittest.TestCase):
    def test_a_line_without_what_only_tells_answers_alike(self):
        asked = {}
        for seed in range(LINES):
            line = some_line(seed)
            calls = line + probes(8, 6, 6)
            told = answered(*calls)
            kept = [number for number, call in enumerate(calls) if number >= len(line) or call[0] not in ONLY_TELL]
            again = answered(*[calls[number] for number in kept])
            self.assertEqual(again, [told[number] for number in kept], seed)
            for call, answer in zip(line, told):
                if answer[0] >= 0:
                    asked[call[0]] = asked.get(call[0], 0) + 1
        for name in ONLY_TELL:
            self.assertGreater(asked.get(name, 0), 10, name)

    def test_the_same_question_again_has_the_same_answer(self):
        for seed in range(LINES):
            calls = []
            for call in some_line(seed):
                calls += [call, call] if call[0] in ONLY_TELL else [call]
            told = answered(*calls)
            for number, call in enumerate(calls[:-1]):
                if call[0] in ONLY_TELL and calls[number + 1] == call:
                    self.assertEqual(told[number], told[number + 1], (seed, call))


class NothingIsLost(unittest.TestCase):
    def whole(self, seed):
        """A line without a second begin, with everything drawn at the end."""
        calls = [call for number, call in enumerate(some_line(seed)) if number == 0 or call[0] != "begin"]
        drawn = [("draw", mix, amount) for mix in range(6) for amount in (256, 128, 64, 32, 16, 8, 4, 2, 1)]
        return calls + drawn

    def test_all_that_was_added_is_drawn_in_the_end_to_the_gram(self):
        for seed in range(LINES):
            calls = self.whole(seed)
            things = []
            added = [0] * 5
            drawn = [0] * 5
            for call, answer in zip(calls, answered(*calls)):
                if answer[0] < 0:
                    continue
                if call[0] == "thing":
                    things.append((1, *call[1:]))
                if call[0] == "add":
                    added = [before + call[3] * each for before, each in zip(added, things[call[2]])]
                if call[0] == "draw":
                    drawn = [before + each for before, each in zip(drawn, answer)]
            self.assertEqual(drawn, added, seed)

    def test_every_kilogram_bought_is_in_stock_or_drawn_in_the_end(self):
        for seed in range(LINES):
            calls = self.whole(seed) + [("buy", thing, 1) for thing in range(8)]
            told = answered(*calls)
            bought = sum(call[2] for call, answer in zip(calls, told) if call[0] == "buy" and answer[0] >= 0)
            drawn = sum(call[2] for call, answer in zip(calls, told) if call[0] == "draw" and answer[0] >= 0)
            stock = sum(answer[0] for answer in told[-8:] if answer[0] >= 0)
            self.assertEqual(stock + drawn, bought, seed)

    def test_every_kilogram_bought_is_in_stock_in_a_mix_or_drawn_all_along(self):
        for seed in range(LINES):
            calls = []
            for call in some_line(seed):
                calls += [call, ("sums",)]
            bought = drawn = 0
            told = answered(*calls)
            for call, answer, sums in zip(calls[::2], told[::2], told[1::2]):
                if answer[0] >= 0 and call[0] == "begin":
                    bought = drawn = 0
                if answer[0] >= 0 and call[0] == "buy":
                    bought += call[2]
                if answer[0] >= 0 and call[0] == "draw":
                    drawn += call[2]
                self.assertEqual([sums[0], sums[1], sums[4]], [0, bought, drawn], (seed, call))
                self.assertEqual(sums[1], sums[2] + sums[3] + sums[4], (seed, call))

    def test_sums_are_those_of_what_is_looked_at(self):
        for seed in range(LINES):
            told = answered(*some_line(seed), *[("of", thing) for thing in range(8)], *[("look", mix) for mix in range(6)],
                            ("sums",), ("state",))[-16:]
            things = [answer for answer in told[:8] if answer != [-2]]
            mixes = [answer for answer in told[8:14] if answer != [-2]]
            self.assertEqual(told[14][2:4], [sum(answer[0] for answer in things), sum(answer[0] for answer in mixes)], seed)
            self.assertEqual(told[15][:2], [len(mixes), len(things)], seed)

    def test_pouring_keeps_the_sum(self):
        for amount in range(1, 14):
            told = answered(
                ("begin", 40), ("thing", 101, 203, 307, 11), ("thing", 7, 0, 13, 5), ("buy", 0, 20), ("buy", 1, 20),
                ("mix",), ("mix",), ("add", 0, 0, 5), ("add", 0, 1, 8), ("add", 1, 0, 2), ("pour", 0, 1, amount),
                ("draw", 1, amount + 2), ("draw", 0, 13 - amount),
            )
            rest = [0] * 5 if amount == 13 else told[-1]
            whole = [before + other for before, other in zip(told[8], told[9])]
            self.assertEqual([each + other for each, other in zip(told[-2], rest)], whole, amount)


class FittingHolds(unittest.TestCase):
    things = [("thing", 120, 180, 160, 3), ("thing", 90, 170, 200, 5), ("thing", 0, 0, 0, 0)]
    recipes = [[90, 120, 300, 500, 150, 210], [120, 120, 460, 460, 160, 160], [80, 100, 300, 470, 0, 200],
               [0, 60, 0, 300, 0, 1000], [0, 1000, 0, 230, 0, 1000], [0, 1000, 0, 1000, 81, 1000]]

    def ready(self):
        calls = [("begin", 300), *self.things]
        calls.extend(("buy", thing, 300) for thing in range(3))
        calls.extend(("recipe", six) for six in self.recipes)
        return calls + [("mix",), ("mix",)]

    def filled(self, mix, shares):
        return [("add", mix, thing, amount) for thing, amount in enumerate(shares) if amount > 0]

    def verdicts(self, *calls):
        return answered(*self.ready(), *calls, *[("fits", 0, number) for number in range(6)])[-6:]

    def test_as_many_times_as_much_fits_as_well(self):
        for shares in ((1, 0, 0), (0, 1, 0), (1, 1, 0), (2, 1, 1), (1, 2, 3), (0, 0, 1), (3, 0, 4)):
            once = self.verdicts(*self.filled(0, shares))
            for many in (2, 3, 10, 37):
                more = self.filled(0, [share * many for share in shares])
                self.assertEqual(self.verdicts(*more), once, (shares, many))

    def test_two_that_fit_fit_together(self):
        fitting = 0
        kinds = [(1, 0, 0), (0, 1, 0), (3, 1, 0), (1, 5, 1), (2, 2, 1), (4, 7, 0)]
        for first in kinds:
            for second in kinds:
                one = self.verdicts(*self.filled(0, first))
                other = self.verdicts(*self.filled(0, second))
                both = self.verdicts(*self.filled(0, first), *self.filled(1, second), ("pour", 1, 0, sum(second)))
                for number in range(6):
                    if one[number] == [0] and other[number] == [0]:
                        fitting += 1
                        self.assertEqual(both[number], [0], (first, second, number))
        self.assertGreater(fitting, 20)

    def test_what_a_mix_costs_does_not_matter(self):
        for price in (0, 1, 1000):
            told = last(("begin", 9), ("thing", 100, 100, 100, price), ("buy", 0, 9), ("mix",), ("add", 0, 0, 9),
                        ("recipe", [100, 100, 300, 300, 100, 100]), ("fits", 0, 0))
            self.assertEqual(told, [0])


class Ended:
    """A line made up from a seed, and what is there at its end."""

    def __init__(self, seed):
        self.calls = some_line(seed)
        looks = [("look", mix) for mix in range(6)] + [("of", thing) for thing in range(8)] + [("state",)]
        told = answered(*self.calls, *looks)
        self.room = told[-1][3]
        self.things = [answer for answer in told[-9:-1] if answer != [-2]]
        self.mixes = [answer for answer in told[-15:-9] if answer != [-2]]
        self.recipes = []
        for call, answer in zip(self.calls, told):
            if call[0] == "begin" and answer == [0]:
                self.recipes = []
            if call[0] == "recipe" and answer[0] >= 0:
                self.recipes.append(call[1])

    def then(self, *calls):
        return answered(*self.calls, *calls)[len(self.calls):]

    def places(self):
        """Pairs of a mix that is not of nothing and a recipe."""
        there = [mix for mix, has in enumerate(self.mixes) if has[0] > 0]
        return [(mix, recipe) for mix in there[:4] for recipe in range(min(len(self.recipes), 4))]

    def most(self, mix, thing):
        return min(self.things[thing][0], self.room - self.mixes[mix][0])

    def does(self, mix, recipe, thing, amount):
        return suits(more(self.mixes[mix], self.things[thing][1:], amount), self.recipes[recipe])


class AsWanted(unittest.TestCase):
    def test_with_so_much_it_is_as_wanted_with_less_it_is_not(self):
        found = {}
        for seed in range(LINES):
            end = Ended(seed)
            asked = [(mix, recipe, thing) for mix, recipe in end.places() for thing in range(len(end.things))]
            for given, answer in zip(asked, end.then(*[("least", *given) for given in asked])):
                mix, recipe, thing = given
                none = answer == [-33]
                below = end.most(mix, thing) + 1 if none else answer[0]
                self.assertFalse(any(end.does(*given, amount) for amount in range(below)), (seed, given))
                if not none:
                    self.assertTrue(end.does(*given, answer[0]), (seed, given))
                    self.assertEqual(answer[1], answer[0] * end.things[thing][4], (seed, given))
                kind = min(answer[0], 1)
                found[kind] = found.get(kind, 0) + 1
        for kind in (-33, 0, 1):
            self.assertGreater(found.get(kind, 0), 30, found)

    def test_added_in_truth(self):
        added = 0
        for seed in range(LINES):
            end = Ended(seed)
            asked = [(mix, recipe, thing) for mix, recipe in end.places() for thing in range(len(end.things))]
            for given, answer in zip(asked, end.then(*[("least", *given) for given in asked])):
                if answer[0] < 1:
                    continue
                mix, recipe, thing = given
                added += 1
                told = end.then(("add", mix, thing, answer[0]), ("fits", mix, recipe), ("least", *given))
                self.assertEqual(told[1:], [[0], [0, 0]], (seed, given))
                self.assertGreater(end.then(("add", mix, thing, answer[0] - 1), ("fits", mix, recipe))[1][0], 0)
        self.assertGreater(added, 20)

    def test_of_two_together_less_will_not_do_however_it_is_shared(self):
        found = {}
        for seed in range(LINES):
            end = Ended(seed)
            asked = [(mix, recipe, first, other) for mix, recipe in end.places()[:4] for first in range(3)
                     for other in range(3) if first != other and max(first, other) < len(end.things)]
            for given, answer in zip(asked, end.then(*[("two", *given) for given in asked])):
                mix, recipe, first, other = given
                left = end.room - end.mixes[mix][0]
                if left > 40:
                    continue
                stocks = [end.things[thing][0] for thing in (first, other)]
                wanted = tried_two(end.mixes[mix], end.recipes[recipe], end.things[first][1:], end.things[other][1:],
                                   stocks, left)
                self.assertEqual(answer, [-33] if wanted is None else wanted, (seed, given))
                kind = min(answer[0], 1)
                found[kind] = found.get(kind, 0) + 1
        for kind in (-33, 0, 1):
            self.assertGreater(found.get(kind, 0), 10, found)

    def test_two_together_want_no_more_than_one_alone(self):
        for seed in range(LINES):
            end = Ended(seed)
            if len(end.things) < 2:
                continue
            for mix, recipe in end.places()[:6]:
                told = end.then(("least", mix, recipe, 0), ("least", mix, recipe, 1), ("two", mix, recipe, 0, 1))
                alone = [answer[0] for answer in told[:2] if answer != [-33]]
                if alone:
                    self.assertGreaterEqual(told[2][0], 0, (seed, mix, recipe))
                    self.assertLessEqual(told[2][0], min(alone), (seed, mix, recipe))

    def test_by_no_ingredient_alone_less_must_be_added_than_by_the_best(self):
        found = {}
        for seed in range(LINES):
            end = Ended(seed)
            for mix, recipe in end.places():
                alone = end.then(*[("least", mix, recipe, thing) for thing in range(len(end.things))])
                ways = [(*answer, thing) for thing, answer in enumerate(alone) if answer != [-33]]
                told = end.then(("best", mix, recipe))[0]
                self.assertEqual(told, [min(ways)[2], min(ways)[0]] if ways else [-33], (seed, mix, recipe))
                kind = min(told[-1], 1)
                found[kind] = found.get(kind, 0) + 1
        for kind in (-33, 0, 1):
            self.assertGreater(found.get(kind, 0), 10, found)

    def test_no_mix_s_kilogram_costs_more_than_the_dearest_s(self):
        several = 0
        for seed in range(LINES):
            end = Ended(seed)
            costs = [(Fraction(has[4], has[0]), -mix) for mix, has in enumerate(end.mixes) if has[0] > 0]
            told = end.then(("dear",))[0]
            if not costs:
                self.assertEqual(told, [-6], seed)
                continue
            mix = -max(costs)[1]
            self.assertEqual(told, [mix, end.mixes[mix][4], end.mixes[mix][0]], seed)
            several += len(costs) > 1
        self.assertGreater(several, 30)


if __name__ == "__main__":
    unittest.main()
