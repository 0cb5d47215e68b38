"""The calls that only tell, and change nothing (promises 19 to 27)."""

from margintext.anchors import first_carried
from margintext.bookmarks import bookmark_ends
from margintext.notes import quote_of
from margintext.stretches import count_pieces, count_shown, shown_signs, signs_of, stretch_at


def counted(numbers):
    return [len(numbers)] + numbers


def state_number(shown, pieces):
    if shown > 0:
        return 2
    return 1 if pieces > 0 else 0


def tell_state(sheet, c):
    if c not in sheet.comments:
        return [-4]
    comment = sheet.comments[c]
    carriers = [stretch for stretch in sheet.row if c in stretch.comments]
    shown = count_shown(carriers)
    pieces = count_pieces(carriers)
    is_quote = quote_of(carriers) == comment.quote
    return [state_number(shown, pieces), shown, pieces, 1 if is_quote else 0, 1 if comment.solved else 0]


def tell_thread(sheet, c):
    if c not in sheet.comments:
        return [-4]
    comment = sheet.comments[c]
    told = [comment.author, comment.time] + counted(comment.quote) + counted(comment.text)
    told.append(len(comment.replies))
    for answer in comment.replies:
        told.extend([answer[0], answer[1]] + counted(answer[2]))
    return told


def spots_of(row, c):
    """The first place and the place behind the last one, of each spot, one behind another."""
    spots = []
    place = 0
    for stretch in row:
        behind = place + stretch.shown_size()
        if behind > place and c in stretch.comments:
            if spots[-1:] == [place]:
                spots[-1] = behind
            else:
                spots.extend([place, behind])
        place = behind
    return spots


def tell_spots(sheet, c):
    if c not in sheet.comments:
        return [-4]
    spots = spots_of(sheet.row, c)
    return [len(spots) // 2] + spots


def is_listed(comment, w):
    if w == 0:
        return True
    return comment.solved == (w == 2)


def tell_list(sheet, w):
    if not 0 <= w <= 3:
        return [-2]
    carried = first_carried([stretch.comments for stretch in sheet.row])
    orphans = [c for c in sheet.comments if c not in carried]
    if w == 3:
        return counted(orphans)
    return counted([c for c in list(carried) + orphans if is_listed(sheet.comments[c], w)])


def tell_at(sheet, p):
    if not 0 <= p <= count_shown(sheet.row) - 1:
        return [-1]
    stretch = stretch_at(sheet.row, p)
    told = counted(sorted(stretch.comments)) + [len(stretch.bookmarks)]
    for b in sorted(stretch.bookmarks):
        told.extend(counted(sheet.bookmarks[b]))
    return told


def is_waiting(comment, a):
    writers = [comment.author] + [answer[0] for answer in comment.replies]
    return not comment.solved and a in writers and writers[-1] != a


def tell_waiting(sheet, a):
    if not 1 <= a <= 99:
        return [-2]
    return counted([c for c in sheet.comments if is_waiting(sheet.comments[c], a)])


def tell_bookmarks(sheet):
    ends = bookmark_ends(sheet.row)
    told = [len(sheet.bookmarks)]
    for b in sheet.bookmarks:
        told.extend(counted(sheet.bookmarks[b]))
        told.extend(ends.get(b, (-1, -1)))
    return told


def all_pieces(row):
    told = [count_pieces(row)]
    for stretch in row:
        beside = counted(list(stretch.insertions)) + counted(list(stretch.deletions))
        beside.extend(counted(sorted(stretch.comments)))
        beside.append(len(stretch.bookmarks))
        for sign in stretch.signs:
            told.append(sign)
            told.extend(beside)
    return told


def tell_text(sheet, w):
    if not 0 <= w <= 2:
        return [-2]
    if w == 0:
        return all_pieces(sheet.row)
    if w == 1:
        return counted(shown_signs(sheet.row))
    return counted(signs_of([stretch for stretch in sheet.row if len(stretch.insertions) == 0]))


def tell_size(sheet):
    shown = count_shown(sheet.row)
    return [shown, count_pieces(sheet.row), len(sheet.change_authors), len(sheet.comments), len(sheet.bookmarks)]
