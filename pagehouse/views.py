"""What a house tells of itself, changing nothing. The numbers are in their ranges already."""

from pagehouse.rows import page_count, row_with

OUTSIDE = 0
FREE = 1
TAKEN = 2


def look_at(house, page):
    run = row_with(house.taken_rows(), page, 1)
    if run is not None:
        return [TAKEN, run[0], run[1], house.runs[run[0]][1]]
    row = row_with(house.free_rows, page, 1)
    if row is not None:
        return [FREE, row[0], row[1], 0]
    return [OUTSIDE, page, 0, 0]


def list_runs(house, start, most):
    result = [len(house.runs)]
    for first in sorted(house.runs)[start:start + most]:
        result.append(first)
        result.extend(house.runs[first])
    return result


def sums(house):
    free = page_count(house.free_rows)
    taken = page_count(house.taken_rows())
    return [0, free + taken, free, taken,
            house.asked, house.refused, house.came, house.given_back, house.most_at_once]
