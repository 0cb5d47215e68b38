"""The row of pieces, and the ways to part it at the places of shown pieces.

A row is a list of stretches. Neighbours that bear and carry the same are kept together, because a
tracked move copies all that comes over: piece by piece a row may grow to millions.
"""


class Stretch:
    """Neighbouring pieces that differ in their signs alone.

    A stretch is never changed once it is made, nor is what it holds, so rows may share it.
    """

    def __init__(self, signs, insertions, deletions, comments, bookmarks):
        self.signs = signs
        self.insertions = insertions
        self.deletions = deletions
        self.comments = comments
        self.bookmarks = bookmarks

    def is_shown(self):
        return len(self.deletions) == 0

    def shown_size(self):
        return len(self.signs) if self.is_shown() else 0

    def part(self, start, stop):
        return Stretch(self.signs[start:stop], self.insertions, self.deletions, self.comments, self.bookmarks)

    def with_insertions(self, insertions):
        return Stretch(self.signs, insertions, self.deletions, self.comments, self.bookmarks)

    def with_deletions(self, deletions):
        return Stretch(self.signs, self.insertions, deletions, self.comments, self.bookmarks)

    def with_comments(self, comments):
        return Stretch(self.signs, self.insertions, self.deletions, comments, self.bookmarks)

    def with_bookmarks(self, bookmarks):
        return Stretch(self.signs, self.insertions, self.deletions, self.comments, bookmarks)


def without(numbers, number):
    """What a piece bears or carries, without this one; no number is there twice."""
    if number not in numbers:
        return numbers
    index = numbers.index(number)
    return numbers[:index] + numbers[index + 1:]


def count_pieces(row):
    return sum([len(stretch.signs) for stretch in row])


def count_shown(row):
    return sum([stretch.shown_size() for stretch in row])


def signs_of(row):
    signs = []
    for stretch in row:
        signs.extend(stretch.signs)
    return signs


def shown_signs(row):
    return signs_of([stretch for stretch in row if stretch.is_shown()])


def find_place(row, place):
    """The index of the stretch in which the shown piece at this place stands, and how far in it stands."""
    index = 0
    left = place
    while left >= row[index].shown_size():
        left -= row[index].shown_size()
        index += 1
    return (index, left)


def stretch_at(row, place):
    return row[find_place(row, place)[0]]


def part_within(row, index, offset):
    """The row in two halves, parted within the stretch at this index; no half holds an empty stretch."""
    stretch = row[index]
    size = len(stretch.signs)
    front = row[:index]
    back = row[index + 1:]
    if offset > 0:
        front.append(stretch.part(0, offset))
    if offset < size:
        back = [stretch.part(offset, size)] + back
    return (front, back)


def part_before(row, place):
    """The row in two halves: the second begins with the shown piece at this place."""
    found = find_place(row, place)
    return part_within(row, found[0], found[1])


def part_behind(row, place):
    """The row in two halves: the first ends with the shown piece at this place."""
    found = find_place(row, place)
    return part_within(row, found[0], found[1] + 1)


def part_around(row, p, q):
    """The row in three: the midst begins with the shown piece at place p and ends with that at place q - 1."""
    halves = part_behind(row, q - 1)
    front = part_before(halves[0], p)
    return (front[0], front[1], halves[1])


def set_before(row, place, stretches):
    """The row with these stretches directly before the shown piece at this place."""
    halves = part_before(row, place)
    return halves[0] + stretches + halves[1]
