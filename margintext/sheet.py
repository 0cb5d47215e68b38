"""All that one object keeps between its calls."""

from margintext.stretches import Stretch

LAST_END = 10


class Comment:
    """A comment; a reply of it is a tuple of its author, its time and its text."""

    def __init__(self, author, time, quote, text):
        self.author = author
        self.time = time
        self.quote = quote
        self.text = text
        self.replies = []
        self.solved = False


class Sheet:
    """The text, its changes, the comments that were made and not dropped, and the names of the bookmarks.

    Comments and bookmarks are kept by their numbers, and so in the order in which they were made.
    """

    def __init__(self):
        self.author = 1
        self.time = 0
        self.tracking = False
        self.change_authors = []
        self.row = [Stretch([LAST_END], (), (), (), ())]
        self.comments = {}
        self.comments_made = 0
        self.bookmarks = {}
        self.bookmarks_made = 0
