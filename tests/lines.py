"""For the tests: calls written by name, and their answers taken apart."""

from creammixes.vats import answers

NUMBERS = {
    "begin": 0, "thing": 1, "buy": 2, "mix": 3, "recipe": 4,
    "add": 5, "pour": 6, "draw": 7, "fits": 8, "which": 9,
}

HIGHEST = 4294967295


def written(calls):
    """Calls such as ("add", 0, 0, 3) or ("recipe", [0, 1, 0, 1, 0, 1]) as one list of whole numbers."""
    row = []
    for call in calls:
        row.append(NUMBERS[call[0]])
        for given in call[1:]:
            if isinstance(given, list):
                row.append(len(given))
                row.extend(given)
            else:
                row.append(given)
    return row


def taken_apart(told):
    apart = []
    at = 0
    while at < len(told):
        end = at + 1 + told[at]
        assert end <= len(told), "an answer is cut off"
        apart.append(told[at + 1:end])
        at = end
    return apart


def answered(*calls):
    """One list of answers, each a list, for the calls on one new object."""
    apart = taken_apart(answers(written(calls)))
    assert len(apart) == len(calls), "not as many answers as calls"
    return apart


def last(*calls):
    return answered(*calls)[-1]


POWERS = (256, 128, 64, 32, 16, 8, 4, 2, 1)


def probes(things, mixes, recipes):
    """Calls whose answers show all that an object keeps: how many of each, stocks, room, mixes, recipes."""
    asked = []
    for mix in range(mixes):
        asked.append(("which", mix))
        asked.extend(("fits", mix, recipe) for recipe in range(recipes))
        # Those that are not too many draw it to nothing, whatever it has.
        asked.extend(("draw", mix, amount) for amount in POWERS)
    asked.extend(("buy", thing, 1) for thing in range(things))
    asked.extend([("thing", 0, 0, 0, 0), ("mix",), ("recipe", [0, 1000] * 3), ("buy", 0, 600)])
    # Those for which there's room fill mix 0, which is of nothing now: this shows how much may be in it.
    asked.extend(("add", 0, 0, amount) for amount in POWERS)
    return asked
