"""The changes one behind another: the last of them can be taken back, and done again."""

from driftboxes.boxes import Box
from driftboxes.sea import Sea

MOST_BACK = 20


class Course:
    """What is known now, what was known before each change, and what was known when one was taken back."""

    def __init__(self):
        # Nothing is asked ahead of a start that isn't refused: which box stands here until then is all one.
        self.begin(Box(0, 0, 0, 0), 0, 0)

    def begin(self, box, lo, hi):
        self.sea = Sea([box], lo, hi)
        self.earlier = []
        self.later = []

    def change(self, changed):
        """Now that is known; what could be done again can't be any more."""
        self.earlier = (self.earlier + [self.sea])[-MOST_BACK:]
        self.later = []
        self.sea = changed

    def take_back(self):
        self.later.append(self.sea)
        self.sea = self.earlier.pop()

    def do_again(self):
        self.earlier.append(self.sea)
        self.sea = self.later.pop()
