"""Rows of pages: lists of (first page, page behind the last), from the lowest on, none empty."""


def joined(rows):
    """The same pages, with rows that touch made one."""
    whole = []
    for first, end in sorted(rows):
        if whole and whole[-1][1] == first:
            whole[-1] = (whole[-1][0], end)
        else:
            whole.append((first, end))
    return whole


def without(rows, first, end):
    """The rows less the pages from first up to end."""
    left = []
    for row in rows:
        for part in [(row[0], min(row[1], first)), (max(row[0], end), row[1])]:
            if part[0] < part[1]:
                left.append(part)
    return left


def lowest_place(rows, many, multiple):
    """The lowest page at a multiple from which so many pages stand in one row; None if there is none."""
    for first, end in rows:
        start = (first + multiple - 1) // multiple * multiple
        if start + many <= end:
            return start
    return None


def within_one(rows, first, end):
    """Whether the pages from first up to end are all in one row."""
    return any([row[0] <= first and end <= row[1] for row in rows])


def meets(rows, first, end):
    """Whether one of the pages from first up to end is in a row."""
    return any([row[0] < end and first < row[1] for row in rows])


def how_many(rows):
    return sum([end - first for first, end in rows])
