"""Comments: making, answering, solving, dropping and laying them anew (promises 10 to 15)."""

from margintext.anchors import is_range, lay_comment, lift_comment
from margintext.checks import is_note_text
from margintext.sheet import Comment
from margintext.stretches import part_around, shown_signs

LONGEST_QUOTE = 40


def quote_of(row):
    return shown_signs(row)[:LONGEST_QUOTE]


def quote_at(sheet, p, q):
    return quote_of(part_around(sheet.row, p, q)[1])


def make_comment(sheet, p, q, text):
    if not is_range(sheet, p, q):
        return [-1]
    if not is_note_text(text):
        return [-2]
    sheet.comments_made += 1
    c = sheet.comments_made
    sheet.comments[c] = Comment(sheet.author, sheet.time, quote_at(sheet, p, q), text)
    lay_comment(sheet, c, p, q)
    return [c]


def reply(sheet, c, text):
    if c not in sheet.comments:
        return [-4]
    if not is_note_text(text):
        return [-2]
    comment = sheet.comments[c]
    if comment.solved:
        return [-6]
    comment.replies.append((sheet.author, sheet.time, text))
    return [len(comment.replies)]


def solve(sheet, c, on):
    if c not in sheet.comments:
        return [-4]
    if on != 0 and on != 1:
        return [-2]
    comment = sheet.comments[c]
    if comment.solved == (on == 1):
        return [-6]
    comment.solved = on == 1
    return [0]


def drop(sheet, c):
    if c not in sheet.comments:
        return [-4]
    if sheet.comments[c].author != sheet.author:
        return [-5]
    sheet.comments.pop(c)
    return [lift_comment(sheet, c)]


def reanchor(sheet, c, p, q):
    if c not in sheet.comments:
        return [-4]
    comment = sheet.comments[c]
    if comment.author != sheet.author:
        return [-5]
    if not is_range(sheet, p, q):
        return [-1]
    lift_comment(sheet, c)
    lay_comment(sheet, c, p, q)
    comment.quote = quote_at(sheet, p, q)
    return [q - p]


def is_orphan(sheet, c):
    return not any([c in stretch.comments for stretch in sheet.row])


def find_signs(signs, wanted):
    """The least place from which on the signs begin with the wanted ones, -1 if there is none."""
    size = len(wanted)
    for place in range(len(signs) - size + 1):
        if signs[place:place + size] == wanted:
            return place
    return -1


def rescue(sheet, c):
    if c not in sheet.comments:
        return [-4]
    if not is_orphan(sheet, c):
        return [-7]
    quote = sheet.comments[c].quote
    p = find_signs(shown_signs(sheet.row), quote)
    if p == -1:
        return [-8]
    q = p + len(quote)
    lay_comment(sheet, c, p, q)
    return [p, q]
