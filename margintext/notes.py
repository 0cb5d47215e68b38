"""Comments: making, answering, solving, dropping and laying them anew (promises 10 to 14)."""

from margintext.checks import is_note_text
from margintext.sheet import Comment
from margintext.stretches import count_pieces, count_shown, part_around, shown_signs

LONGEST_QUOTE = 40


def is_range(sheet, p, q):
    return 0 <= p < q <= count_shown(sheet.row)


def quote_at(sheet, p, q):
    return shown_signs(part_around(sheet.row, p, q)[1])[:LONGEST_QUOTE]


def lay_comment(sheet, c, p, q):
    parts = part_around(sheet.row, p, q)
    laid = [stretch.with_comments(stretch.comments + (c,)) for stretch in parts[1]]
    sheet.row = parts[0] + laid + parts[2]


def lift_comment(sheet, c):
    """Lifts comment c, and answers how many pieces carried it."""
    lifted = []
    carried = []
    for stretch in sheet.row:
        if c in stretch.comments:
            carried.append(stretch)
            lifted.append(stretch.with_comments(tuple([other for other in stretch.comments if other != c])))
        else:
            lifted.append(stretch)
    sheet.row = lifted
    return count_pieces(carried)


def make_comment(sheet, p, q, text):
    if not is_range(sheet, p, q):
        return [-1]
    if not is_note_text(text):
        return [-2]
    sheet.comments_made += 1
    c = sheet.comments_made
    sheet.comments[c] = Comment(sheet.author, sheet.time, quote_at(sheet, p, q), text)
    lay_comment(sheet, c, p, q)
    return [c]


def reply(sheet, c, text):
    if c not in sheet.comments:
        return [-4]
    if not is_note_text(text):
        return [-2]
    comment = sheet.comments[c]
    if comment.solved:
        return [-6]
    comment.replies.append((sheet.author, sheet.time, text))
    return [len(comment.replies)]


def solve(sheet, c, on):
    if c not in sheet.comments:
        return [-4]
    if on != 0 and on != 1:
        return [-2]
    comment = sheet.comments[c]
    if comment.solved == (on == 1):
        return [-6]
    comment.solved = on == 1
    return [0]


def drop(sheet, c):
    if c not in sheet.comments:
        return [-4]
    if sheet.comments[c].author != sheet.author:
        return [-5]
    sheet.comments.pop(c)
    return [lift_comment(sheet, c)]


def reanchor(sheet, c, p, q):
    if c not in sheet.comments:
        return [-4]
    comment = sheet.comments[c]
    if comment.author != sheet.author:
        return [-5]
    if not is_range(sheet, p, q):
        return [-1]
    lift_comment(sheet, c)
    lay_comment(sheet, c, p, q)
    comment.quote = quote_at(sheet, p, q)
    return [q - p]
