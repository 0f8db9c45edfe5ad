"""For the tests: calls written by name, and their answers taken apart."""

from creammixes.vats import answers

NUMBERS = {
    "begin": 0, "thing": 1, "buy": 2, "mix": 3, "recipe": 4,
    "add": 5, "pour": 6, "draw": 7, "fits": 8, "which": 9,
    "least": 10, "two": 11, "best": 12, "would": 13, "after": 14,
    "look": 15, "of": 16, "dear": 17, "sums": 18, "state": 19,
}

ONLY_TELL = ("fits", "which", "least", "two", "best", "would", "after", "look", "of", "dear", "sums", "state")

HIGHEST = 4294967295


def written(calls):
    """Calls such as ("add", 0, 0, 3) or ("recipe", [0, 1, 0, 1, 0, 1]) as one list of whole numbers."""
    row = []
    for call in calls:
        row.append(NUMBERS[call[0]])
        for given in call[1:]:
            if isinstance(given, list):
                row.append(len(given))
                row.extend(given)
            else:
                row.append(given)
    return row


def taken_apart(told):
    apart = []
    at = 0
    while at < len(told):
        end = at + 1 + told[at]
        assert end <= len(told), "an answer is cut off"
        apart.append(told[at + 1:end])
        at = end
    return apart


def answered(*calls):
    """One list of answers, each a list, for the calls on one new object."""
    apart = taken_apart(answers(written(calls)))
    assert len(apart) == len(calls), "not as many answers as calls"
    return apart


def last(*calls):
    return answered(*calls)[-1]


def stood(room, six, base, kilograms, *others):
    """Mix 0 is so many kilograms of ingredient 0 (base), of which none is left; six is recipe 0.

    Behind it stand the others: fat, other solids, sugar, price, and how many are in stock.
    """
    calls = [("begin", room), ("recipe", six), ("mix",), ("thing", *base), ("buy", 0, kilograms), ("add", 0, 0, kilograms)]
    for number, given in enumerate(others, 1):
        calls.append(("thing", *given[:4]))
        if given[4] > 0:
            calls.append(("buy", number, given[4]))
    return calls


def suits(has, six):
    solids = has[1] + has[2] + has[3]
    grams = (has[1], solids, has[3])
    return all(six[2 * at] * has[0] <= each <= six[2 * at + 1] * has[0] for at, each in enumerate(grams))


def more(has, thing, amount):
    """What it has with so many kilograms more of a thing (fat, other solids, sugar, price)."""
    return [has[0] + amount] + [each + amount * brought for each, brought in zip(has[1:], thing)]


def tried_one(has, six, thing, most):
    """The fewest kilograms so that nothing's wrong, by trying one number behind another; None if it can't be."""
    for amount in range(most + 1):
        if suits(more(has, thing, amount), six):
            return amount
    return None


def tried_two(has, six, first, other, stocks, room):
    """Likewise of two: of all shares for which there's stock and room the ones that come first."""
    ways = []
    for amount in range(min(stocks[0], room) + 1):
        rest = tried_one(more(has, first, amount), six, other, min(stocks[1], room - amount))
        if rest is not None:
            ways.append([amount + rest, amount, rest])
    return min(ways, default=None)


POWERS = (256, 128, 64, 32, 16, 8, 4, 2, 1)


def probes(things, mixes, recipes):
    """Calls whose answers show all that an object keeps: how many of each, stocks, room, mixes, recipes."""
    asked = [("state",), ("sums",), ("dear",)]
    asked.extend(("of", thing) for thing in range(things))
    for mix in range(mixes):
        asked.append(("look", mix))
        asked.append(("which", mix))
        asked.extend(("fits", mix, recipe) for recipe in range(recipes))
        # Those that are not too many draw it to nothing, whatever it has.
        asked.extend(("draw", mix, amount) for amount in POWERS)
    asked.extend(("buy", thing, 1) for thing in range(things))
    asked.extend([("thing", 0, 0, 0, 0), ("mix",), ("recipe", [0, 1000] * 3), ("buy", 0, 600)])
    # Those for which there's room fill mix 0, which is of nothing now: this shows how much may be in it.
    asked.extend(("add", 0, 0, amount) for amount in POWERS)
    return asked
