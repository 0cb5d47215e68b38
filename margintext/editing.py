"""The commands that change the text (promises 4 to 7)."""

from margintext.checks import are_signs
from margintext.stretches import Stretch, count_shown, part_around, set_before, stretch_at


def next_change(sheet):
    return len(sheet.change_authors) + 1


def bears_newest(stretch, change):
    # What a piece is given stands behind what it has, so the change of the moment can only be the last one.
    return change in stretch.insertions[-1:] or change in stretch.deletions


def enter_change(sheet):
    """Promise 4: the change of the moment is entered if some piece bears it."""
    change = next_change(sheet)
    if any([bears_newest(stretch, change) for stretch in sheet.row]):
        sheet.change_authors.append(sheet.author)
        return [change]
    return [0]


def is_own(sheet, stretch):
    if len(stretch.insertions) == 0:
        return False
    return sheet.change_authors[stretch.insertions[-1] - 1] == sheet.author


def is_tracked(sheet, stretch):
    """Whether a cut or a move of these pieces is a change, so that they stay as deleted ones."""
    return sheet.tracking and not is_own(sheet, stretch)


def in_both(some, others):
    return tuple([mark for mark in some if mark in others])


def new_stretch(sheet, p, signs):
    insertions = (next_change(sheet),) if sheet.tracking else ()
    if p == 0:
        return Stretch(signs, insertions, (), (), ())
    left = stretch_at(sheet.row, p - 1)
    right = stretch_at(sheet.row, p)
    comments = in_both(left.comments, right.comments)
    bookmarks = in_both(left.bookmarks, right.bookmarks)
    return Stretch(signs, insertions, (), comments, bookmarks)


def put(sheet, p, signs):
    if not 0 <= p <= count_shown(sheet.row) - 1:
        return [-1]
    if not are_signs(signs):
        return [-2]
    sheet.row = set_before(sheet.row, p, [new_stretch(sheet, p, signs)])
    return enter_change(sheet)


def left_behind(sheet, stretches):
    """What stays in the row of stretches whose shown pieces are cut or moved away."""
    deletions = (next_change(sheet),)
    left = []
    for stretch in stretches:
        if not stretch.is_shown():
            left.append(stretch)
        elif is_tracked(sheet, stretch):
            left.append(stretch.with_deletions(deletions))
    return left


def brought_over(sheet, stretches):
    """What comes over of stretches whose shown pieces are moved."""
    change = next_change(sheet)
    brought = []
    for stretch in stretches:
        if not stretch.is_shown():
            continue
        if is_tracked(sheet, stretch):
            brought.append(stretch.with_insertions(stretch.insertions + (change,)))
        else:
            brought.append(stretch)
    return brought


def cut(sheet, p, q):
    if not 0 <= p < q <= count_shown(sheet.row) - 1:
        return [-1]
    parts = part_around(sheet.row, p, q)
    sheet.row = parts[0] + left_behind(sheet, parts[1]) + parts[2]
    return enter_change(sheet)


def move(sheet, p, q, r):
    last = count_shown(sheet.row) - 1
    if not (0 <= p < q <= last and 0 <= r <= last):
        return [-1]
    if p <= r <= q:
        return [-3]
    parts = part_around(sheet.row, p, q)
    left = left_behind(sheet, parts[1])
    brought = brought_over(sheet, parts[1])
    if r < p:
        sheet.row = set_before(parts[0], r, brought) + left + parts[2]
    else:
        # The last part's own places begin with 0 at what was place q.
        sheet.row = parts[0] + left + set_before(parts[2], r - q, brought)
    return enter_change(sheet)
