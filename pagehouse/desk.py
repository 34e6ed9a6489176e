"""The desk: the calls on one house come in as one list of numbers, their answers go out as another."""

from pagehouse.acts import begin, cut_run, give, grow, join_runs, mark_run, take
from pagehouse.given import Given
from pagehouse.house import House

OUT_OF_RANGE = -8

BEGIN = 0
TAKE = 1
GIVE = 2
GROW = 3
CUT = 4
JOIN = 5

# By a call's number: for each of its own numbers the least and the greatest, or None if any will do.
RANGES = {
    0: ((1, 16384), (1, 1024), (0, 16384)),
    1: ((1, 16384), (0, 10), (0, 7)),
    2: (None,),
    3: (None, (1, 16384)),
    4: (None, None),
    5: (None,),
    6: (None, (0, 7)),
}


def in_ranges(numbers, ranges):
    for number, bounds in zip(numbers, ranges):
        if bounds is not None and not bounds[0] <= number <= bounds[1]:
            return False
    return True


def act(house, call, numbers, given):
    if call == BEGIN:
        return begin(house, numbers[0], numbers[1], numbers[2], given)
    if call == TAKE:
        return take(house, numbers[0], numbers[1], numbers[2], given)
    if call == GIVE:
        return give(house, numbers[0], given)
    if call == GROW:
        return grow(house, numbers[0], numbers[1], given)
    if call == CUT:
        return cut_run(house, numbers[0], numbers[1])
    if call == JOIN:
        return join_runs(house, numbers[0])
    # RANGES lets only one more number through: 6, mark.
    return mark_run(house, numbers[0], numbers[1])


def answer(house, call, numbers, given):
    if in_ranges(numbers, RANGES[call]):
        told = act(house, call, numbers, given)
    else:
        told = OUT_OF_RANGE
    result = [len(given.asks)]
    for ask in given.asks:
        result.extend(ask)
    result.append(told)
    return result


def answers(calls):
    house = House()
    result = []
    at = 0
    while at < len(calls):
        call = calls[at]
        count_at = at + 1 + len(RANGES[call])
        behind = count_at + 1 + calls[count_at]
        given = Given(calls[count_at + 1:behind])
        told = answer(house, call, calls[at + 1:count_at], given)
        result.append(len(told))
        result.extend(told)
        at = behind
    return result
