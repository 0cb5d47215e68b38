"""Accepting and rejecting changes (promises 8 and 9); c = 0 stands for all changes."""

from margintext.stretches import count_pieces, without


def is_entered_or_all(sheet, c):
    return 0 <= c <= len(sheet.change_authors)


def is_among(changes, c):
    if c == 0:
        return len(changes) > 0
    return c in changes


def left_of(changes, c):
    if c == 0:
        return ()
    return without(changes, c)


def accept(sheet, c):
    if not is_entered_or_all(sheet, c):
        return [-4]
    before = count_pieces(sheet.row)
    kept = [stretch for stretch in sheet.row if not is_among(stretch.deletions, c)]
    sheet.row = [stretch.with_insertions(left_of(stretch.insertions, c)) for stretch in kept]
    return [before - count_pieces(kept)]


def reject(sheet, c):
    if not is_entered_or_all(sheet, c):
        return [-4]
    before = count_pieces(sheet.row)
    kept = [stretch for stretch in sheet.row if not is_among(stretch.insertions, c)]
    sheet.row = [stretch.with_deletions(left_of(stretch.deletions, c)) for stretch in kept]
    return [before - count_pieces(kept)]
