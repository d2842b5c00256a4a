"""What one object keeps: its bits, what is there now, and what can be taken back or done again."""


class Page:
    """All that a change may alter: the goal, the words, rising, and the report's lines. A page is never changed."""

    def __init__(self, goal, words, lines):
        self.goal = goal
        self.words = words
        self.lines = lines


class Book:
    """The page that is so now, those before it, and those taken back; no bits till a begin is answered 0."""

    def __init__(self):
        self.renew(0, 0)

    def renew(self, bits, goal):
        """No words, no report, nothing to take back."""
        self.bits = bits
        self.page = Page(goal, [], [])
        self.past = []
        self.undone = []

    def turn(self, page):
        """A change: the last ten can be taken back, and what was taken back before it no longer fits."""
        self.past = (self.past + [self.page])[-10:]
        self.page = page
        self.undone = []

    def turn_back(self):
        """The last change is taken back; there must be one."""
        self.undone.append(self.page)
        self.page = self.past.pop()

    def turn_again(self):
        """What was taken back last is done again; there must be something."""
        self.past.append(self.page)
        self.page = self.undone.pop()
