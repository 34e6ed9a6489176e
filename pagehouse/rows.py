"""Rows of pages: lists of (first page, how many pages), from the lowest on, no two of them touching."""


def joined(rows):
    result = []
    for first, pages in sorted(rows):
        if result and result[-1][0] + result[-1][1] == first:
            result[-1] = (result[-1][0], result[-1][1] + pages)
        else:
            result.append((first, pages))
    return result


def without(rows, first, pages):
    behind = first + pages
    result = []
    for start, count in rows:
        end = start + count
        if start < min(end, first):
            result.append((start, min(end, first) - start))
        if max(start, behind) < end:
            result.append((max(start, behind), end - max(start, behind)))
    return result


def touch_any(rows, first, pages):
    for start, count in rows:
        if start < first + pages and first < start + count:
            return True
    return False


def row_with(rows, first, pages):
    for start, count in rows:
        if start <= first and first + pages <= start + count:
            return (start, count)
    return None


def lowest_place(rows, pages, step):
    for start, count in rows:
        place = (start + step - 1) // step * step
        if place + pages <= start + count:
            return place
    return None


def page_count(rows):
    return sum([pages for first, pages in rows])
