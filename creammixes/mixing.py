"""What is reckoned on mixes and recipes, without keeping anything.

A mix is a list of five: kilograms, grams of fat, of other solids, of sugar, what they cost.
One kilogram of an ingredient has the same form, so that both are reckoned with alike.
A recipe is a list of six: least and most of fat, of all solids, of sugar.
"""

NOTHING = (0, 0, 0, 0, 0)


def times(kilogram, amount):
    return [amount * each for each in kilogram]


def together(first, second):
    return [one + other for one, other in zip(first, second)]


def without(mix, part):
    return [whole - gone for whole, gone in zip(mix, part)]


def part_of(mix, amount):
    # The kilograms go through the same division: amount * kilograms // kilograms is amount.
    return [each * amount // mix[0] for each in mix]


def spares(mix, recipe):
    """By how many grams it keeps each of the recipe's six bounds; below 0 where it doesn't.

    What two have to spare adds up as the two do, so that a kilogram more tells by how much each changes.
    """
    kilograms = mix[0]
    fat = mix[1]
    sugar = mix[3]
    solids = fat + mix[2] + sugar
    spare = []
    for window, grams in enumerate((fat, solids, sugar)):
        # Multiplied, not divided, so that nothing is rounded.
        spare.append(grams - recipe[2 * window] * kilograms)
        spare.append(recipe[2 * window + 1] * kilograms - grams)
    return spare


def what_is_wrong(mix, recipe):
    for bound, grams in enumerate(spares(mix, recipe)):
        if grams < 0:
            return bound // 2 + 1
    return 0


def costs_more(first, second):
    """Whether a kilogram of the first costs more than one of the second; neither is of nothing."""
    return first[4] * second[0] > second[4] * first[0]


def is_recipe(six):
    if len(six) != 6 or max(six) > 1000:
        return False
    return six[0] <= six[1] and six[2] <= six[3] and six[4] <= six[5]
