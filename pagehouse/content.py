"""The bytes in a house's pages: put there, and got from there. The numbers are in their ranges already."""

from pagehouse.refusals import NOT_ALLOWED, NO_RUN
from pagehouse.rows import row_with

PAGE_BYTES = 4096

# What of a mark stands against it: 1 or 2, and 2 alone.
NOT_TO_PUT = 3
NOT_TO_GET = 2


def run_around(house, at, count):
    first = at // PAGE_BYTES
    # Of no bytes, too, the place itself must be in the run.
    last = (at + max(count, 1) - 1) // PAGE_BYTES
    return row_with(house.taken_rows(), first, last - first + 1)


def refusal_to_reach(house, at, count, hindrance):
    run = run_around(house, at, count)
    if run is None:
        return NO_RUN
    if house.runs[run[0]][1] & hindrance:
        return NOT_ALLOWED
    return 0


def put_bytes(house, at, content):
    refusal = refusal_to_reach(house, at, len(content), NOT_TO_PUT)
    if refusal < 0:
        return refusal
    for place, byte in enumerate(content, start=at):
        page = place // PAGE_BYTES
        if page not in house.written:
            house.written[page] = [0] * PAGE_BYTES
        house.written[page][place % PAGE_BYTES] = byte
    return 0


def byte_at(house, place):
    page = place // PAGE_BYTES
    return house.written[page][place % PAGE_BYTES] if page in house.written else 0


def get_bytes(house, at, count):
    refusal = refusal_to_reach(house, at, count, NOT_TO_GET)
    if refusal < 0:
        return [refusal]
    return [0] + [byte_at(house, place) for place in range(at, at + count)]
