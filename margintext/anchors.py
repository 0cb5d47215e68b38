"""Laying comments and bookmarks on places, and lifting them."""

from margintext.stretches import count_pieces, count_shown, part_around, without


def is_range(sheet, p, q):
    return 0 <= p < q <= count_shown(sheet.row)


def lay_comment(sheet, c, p, q):
    parts = part_around(sheet.row, p, q)
    laid = [stretch.with_comments(stretch.comments + (c,)) for stretch in parts[1]]
    sheet.row = parts[0] + laid + parts[2]


def lay_bookmark(sheet, b, p, q):
    parts = part_around(sheet.row, p, q)
    laid = [stretch.with_bookmarks(stretch.bookmarks + (b,)) for stretch in parts[1]]
    sheet.row = parts[0] + laid + parts[2]


def lift_comment(sheet, c):
    """Lifts comment c, and answers how many pieces carried it."""
    carriers = [stretch for stretch in sheet.row if c in stretch.comments]
    sheet.row = [stretch.with_comments(without(stretch.comments, c)) for stretch in sheet.row]
    return count_pieces(carriers)


def lift_bookmark(sheet, b):
    """Lifts bookmark b, and answers how many pieces carried it."""
    carriers = [stretch for stretch in sheet.row if b in stretch.bookmarks]
    sheet.row = [stretch.with_bookmarks(without(stretch.bookmarks, b)) for stretch in sheet.row]
    return count_pieces(carriers)


def first_carried(carried):
    """The numbers in these tuples, in the order in which they first stand there, those of one tuple rising.

    A long row has few different tuples, so each is looked at once. The answer is a dict of True.
    """
    different = {}
    for numbers in carried:
        different[numbers] = True
    found = {}
    for numbers in different:
        for number in sorted(numbers):
            found[number] = True
    return found
