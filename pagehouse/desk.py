"""The desk: the calls on one house come in as one list of numbers, their answers go out as another."""

from pagehouse.acts import begin, cut_run, give, grow, join_runs, mark_run, take
from pagehouse.content import get_bytes, put_bytes
from pagehouse.given import Given
from pagehouse.house import House
from pagehouse.line import Line
from pagehouse.refusals import OUT_OF_RANGE
from pagehouse.views import list_runs, look_at, sums

BEGIN = 0
TAKE = 1
GIVE = 2
GROW = 3
CUT = 4
JOIN = 5
MARK = 6
PUT = 7
GET = 8
LOOK = 9
RUNS = 10
SUMS = 11

# By a call's number: for each of its own numbers the least and the greatest, or None if any will do.
RANGES = {
    0: ((1, 16384), (1, 1024), (0, 16384)),
    1: ((1, 16384), (0, 10), (0, 7)),
    2: (None,),
    3: (None, (1, 16384)),
    4: (None, None),
    5: (None,),
    6: (None, (0, 7)),
    7: (None,),
    8: (None, (0, 4096)),
    9: ((0, 16383),),
    10: ((0, 2147483647), (0, 1024)),
    11: (),
    12: ((0, 16384),),
}


def in_ranges(numbers, ranges):
    for number, bounds in zip(numbers, ranges):
        if bounds is not None and not bounds[0] <= number <= bounds[1]:
            return False
    return True


def act(house, call, numbers, given):
    if call == BEGIN:
        return begin(house, numbers[0], numbers[1], numbers[2], given)
    if call == TAKE:
        return take(house, numbers[0], numbers[1], numbers[2], given)
    if call == GIVE:
        return give(house, numbers[0], given)
    if call == GROW:
        return grow(house, numbers[0], numbers[1], given)
    if call == CUT:
        return cut_run(house, numbers[0], numbers[1])
    if call == JOIN:
        return join_runs(house, numbers[0])
    if call == MARK:
        return mark_run(house, numbers[0], numbers[1])
    if call == PUT:
        return put_bytes(house, numbers[0], numbers[1:])
    # RANGES lets only one more number through: 12, trim.
    return house.trim(numbers[0], given)


def act_or_view(house, call, numbers, given):
    if not in_ranges(numbers, RANGES[call]):
        return [OUT_OF_RANGE]
    if call == GET:
        return get_bytes(house, numbers[0], numbers[1])
    if call == LOOK:
        return look_at(house, numbers[0])
    if call == RUNS:
        return list_runs(house, numbers[0], numbers[1])
    if call == SUMS:
        return sums(house)
    return [act(house, call, numbers, given)]


def answer(house, call, numbers, given):
    told = act_or_view(house, call, numbers, given)
    result = [len(given.asks)]
    for ask in given.asks:
        result.extend(ask)
    return result + told


def answers(calls):
    house = House()
    line = Line(calls)
    result = []
    while not line.at_end():
        call = line.number()
        numbers = line.numbers(len(RANGES[call]))
        if call == PUT:
            # Its bytes are numbers of its own too, behind the place: they are always in their range.
            numbers = numbers + line.row()
        told = answer(house, call, numbers, Given(line.row()))
        result.append(len(told))
        result.extend(told)
    return result
