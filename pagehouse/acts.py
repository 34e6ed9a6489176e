"""What each call does to a house. The numbers are in their ranges already; a refusal is a number below 0."""

from pagehouse.refusals import NOT_ALLOWED, NO_ROOM, NO_RUN
from pagehouse.rows import lowest_place

KEPT = 4


def begin(house, size, chunk, spare, given):
    for first, pages in house.own_rows():
        given.less(first, pages)
    house.set_up(size, chunk, spare)
    return 0


def sizes_to_ask(chunk, pages, step):
    # So many pages hold a place at a multiple of step, wherever they lie.
    enough = pages + step - 1
    sizes = [max(chunk, enough)]
    if chunk > enough:
        sizes.append(enough)
    if step > 1:
        sizes.append(pages)
    return sizes


def get_more(house, sizes, given):
    for pages in sizes:
        if house.ask_more(pages, given):
            return


def take(house, pages, e, mark, given):
    step = 1 << e
    first = lowest_place(house.free_rows, pages, step)
    if first is None:
        get_more(house, sizes_to_ask(house.chunk, pages, step), given)
        first = lowest_place(house.free_rows, pages, step)
    if first is None:
        return NO_ROOM
    house.make_taken(first, pages)
    house.runs[first] = (pages, mark)
    return first


def refusal_to_give_up(house, p):
    if p not in house.runs:
        return NO_RUN
    if house.runs[p][1] & KEPT:
        return NOT_ALLOWED
    return 0


def give(house, p, given):
    refusal = refusal_to_give_up(house, p)
    if refusal < 0:
        return refusal
    pages = house.runs.pop(p)[0]
    house.make_free(p, pages)
    house.trim(house.spare, given)
    return pages


def grow(house, p, pages, given):
    refusal = refusal_to_give_up(house, p)
    if refusal < 0:
        return refusal
    had = house.runs[p][0]
    if pages > had and not house.are_free(p + had, pages - had):
        return NO_ROOM
    house.runs[p] = (pages, house.runs[p][1])
    if pages > had:
        house.make_taken(p + had, pages - had)
    if pages < had:
        house.make_free(p + pages, had - pages)
        house.trim(house.spare, given)
    return pages


def cut_run(house, p, k):
    if p not in house.runs:
        return NO_RUN
    pages = house.runs[p][0]
    mark = house.runs[p][1]
    if not 1 <= k < pages:
        return NO_RUN
    house.runs[p] = (k, mark)
    house.runs[p + k] = (pages - k, mark)
    return p + k


def join_runs(house, p):
    if p not in house.runs:
        return NO_RUN
    pages = house.runs[p][0]
    mark = house.runs[p][1]
    behind = p + pages
    if behind not in house.runs:
        return NO_RUN
    if house.runs[behind][1] != mark:
        return NOT_ALLOWED
    pages = pages + house.runs.pop(behind)[0]
    house.runs[p] = (pages, mark)
    return pages


def mark_run(house, p, mark):
    if p not in house.runs:
        return NO_RUN
    house.runs[p] = (house.runs[p][0], mark)
    return 0
