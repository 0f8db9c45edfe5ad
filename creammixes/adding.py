"""How few kilograms must be added so that nothing's wrong: reckoned from what each bound has to spare."""

from creammixes.mixing import times, together, without


def fewest(spare, change, lowest, highest):
    """The fewest kilograms, from lowest to highest, with which no bound is broken; None if there are none such.

    spare tells what each bound has without any, change what a kilogram brings to it.
    """
    for grams, more in zip(spare, change):
        if more > 0:
            # Rounded up: with fewer the bound is still broken.
            lowest = max(lowest, -(grams // more))
        elif more < 0:
            highest = min(highest, grams // -more)
        elif grams < 0:
            return None
    return lowest if lowest <= highest else None


def fewest_of_two(spare, first, other, stocks, room):
    """How many of both together, of the first, of the other; None if by no shares all bounds are kept.

    first and other tell what a kilogram of each brings to the bounds, stocks how many there are of each.
    """
    # Each sum is taken as all of the other; then every kilogram of the first takes the place of one of these.
    exchange = without(first, other)
    for both in range(room + 1):
        of_first = fewest(
            together(spare, times(other, both)), exchange, max(0, both - stocks[1]), min(both, stocks[0]),
        )
        if of_first is not None:
            return [both, of_first, both - of_first]
    return None
