"""Bookmarks: making, lifting and finding them (promises 16 to 18).

A bookmark is known by its number, which tells the order in which they were made; its name may be used again.
"""

from margintext.anchors import first_carried, is_range, lay_bookmark, lift_bookmark
from margintext.checks import is_name


def find_bookmark(sheet, name):
    """The number of the bookmark with this name, None if there is none."""
    for b in sheet.bookmarks:
        if sheet.bookmarks[b] == name:
            return b
    return None


def make_bookmark(sheet, p, q, name):
    if not is_range(sheet, p, q):
        return [-1]
    if not is_name(name):
        return [-2]
    if find_bookmark(sheet, name) is not None:
        return [-5]
    sheet.bookmarks_made += 1
    sheet.bookmarks[sheet.bookmarks_made] = name
    lay_bookmark(sheet, sheet.bookmarks_made, p, q)
    return [len(sheet.bookmarks)]


def unmark(sheet, name):
    b = find_bookmark(sheet, name)
    if b is None:
        return [-4]
    # No piece carries it then, so it is gone behind this call as any other one would be.
    return [lift_bookmark(sheet, b)]


def bookmark_ends(row):
    """For each bookmark that a shown piece carries: the place of the first one, and the place behind the last one."""
    ends = {}
    place = 0
    for stretch in row:
        behind = place + stretch.shown_size()
        if behind > place:
            for b in stretch.bookmarks:
                first = ends[b][0] if b in ends else place
                ends[b] = (first, behind)
        place = behind
    return ends


def goto(sheet, name):
    b = find_bookmark(sheet, name)
    if b is None:
        return [-4]
    ends = bookmark_ends(sheet.row)
    if b not in ends:
        return [-7]
    return list(ends[b])


def forget_gone(sheet):
    """A bookmark that no piece carries any longer is gone, and its name is free again."""
    if len(sheet.bookmarks) == 0:
        return
    carried = first_carried([stretch.bookmarks for stretch in sheet.row])
    for b in list(sheet.bookmarks):
        if b not in carried:
            sheet.bookmarks.pop(b)
