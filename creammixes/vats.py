"""Calls on one new object, one behind another in a list of whole numbers, and their answers likewise."""

from creammixes.works import NOT_BEGUN, Works

BEGIN = 0
THING = 1
BUY = 2
MIX = 3
RECIPE = 4
ADD = 5
POUR = 6
DRAW = 7
FITS = 8
WHICH = 9
LEAST = 10
TWO = 11
BEST = 12
WOULD = 13
AFTER = 14
LOOK = 15
OF = 16
DEAR = 17
SUMS = 18
STATE = 19

# How many numbers stand behind each call's own; recipe is not counted here, its row tells its length itself.
HOW_MANY = (1, 4, 2, 0, 0, 3, 3, 2, 2, 1, 3, 4, 2, 3, 3, 1, 1, 0, 0, 0)


class NoSuchCall(ValueError):
    pass


def answers(calls):
    works = Works()
    told = []
    at = 0
    while at < len(calls):
        call = calls[at]
        start = at + 2 if call == RECIPE else at + 1
        end = start + given_count(calls, at)
        answer = answer_of(works, call, calls[start:end])
        told.append(len(answer))
        told.extend(answer)
        at = end
    return told


def given_count(calls, at):
    call = calls[at]
    if call < BEGIN or call > STATE:
        raise NoSuchCall(f"{call}")
    return calls[at + 1] if call == RECIPE else HOW_MANY[call]


def answer_of(works, call, given):
    if call == BEGIN:
        return works.begin(given[0])
    if not works.is_begun():
        return [NOT_BEGUN]
    if call <= DRAW:
        return answer_of_changing(works, call, given)
    if call <= BEST:
        return answer_of_judging(works, call, given)
    return answer_of_telling(works, call, given)


def answer_of_changing(works, call, given):
    if call == THING:
        return works.thing(given[0], given[1], given[2], given[3])
    if call == BUY:
        return works.buy(given[0], given[1])
    if call == MIX:
        return works.mix()
    if call == RECIPE:
        return works.recipe(given)
    if call == ADD:
        return works.add(given[0], given[1], given[2])
    if call == POUR:
        return works.pour(given[0], given[1], given[2])
    return works.draw(given[0], given[1])


def answer_of_judging(works, call, given):
    if call == FITS:
        return works.fits(given[0], given[1])
    if call == WHICH:
        return works.which(given[0])
    if call == LEAST:
        return works.least(given[0], given[1], given[2])
    if call == TWO:
        return works.two(given[0], given[1], given[2], given[3])
    return works.best(given[0], given[1])


def answer_of_telling(works, call, given):
    if call == WOULD:
        return works.would(given[0], given[1], given[2])
    if call == AFTER:
        return works.after(given[0], given[1], given[2])
    if call == LOOK:
        return works.look(given[0])
    if call == OF:
        return works.of(given[0])
    if call == DEAR:
        return works.dear()
    if call == SUMS:
        return works.sums()
    return works.state()
