"""What is reckoned on mixes and recipes, without keeping anything.

A mix is a list of five: kilograms, grams of fat, of other solids, of sugar, what they cost.
One kilogram of an ingredient has the same form, so that both are reckoned with alike.
A recipe is a list of six: least and most of fat, of all solids, of sugar.
"""

NOTHING = (0, 0, 0, 0, 0)


def times(kilogram, amount):
    return [amount * each for each in kilogram]


def together(first, second):
    return [one + other for one, other in zip(first, second)]


def without(mix, part):
    return [whole - gone for whole, gone in zip(mix, part)]


def part_of(mix, amount):
    # The kilograms go through the same division: amount * kilograms // kilograms is amount.
    return [each * amount // mix[0] for each in mix]


def in_window(grams, kilograms, least, most):
    # Multiplied, not divided, so that nothing is rounded.
    return least * kilograms <= grams and grams <= most * kilograms


def what_is_wrong(mix, recipe):
    kilograms = mix[0]
    fat = mix[1]
    sugar = mix[3]
    solids = fat + mix[2] + sugar
    if not in_window(fat, kilograms, recipe[0], recipe[1]):
        return 1
    if not in_window(solids, kilograms, recipe[2], recipe[3]):
        return 2
    if not in_window(sugar, kilograms, recipe[4], recipe[5]):
        return 3
    return 0


def is_recipe(six):
    if len(six) != 6 or max(six) > 1000:
        return False
    return six[0] <= six[1] and six[2] <= six[3] and six[4] <= six[5]
