"""Branches: a text with its texts of before and its undone ones (sections 29 and 30 of the document)."""

from lasttext.errors import Refused

MOST_BEFORE = 200


class Branch:
    """A branch; the newest text of before and the nearest undone one stand last in their lists."""

    def __init__(self, text):
        self.now = text
        self.before = []
        self.undone = []

    def change(self, text):
        if len(self.before) >= MOST_BEFORE:
            raise Refused("too many edits")
        self.before.append(self.now)
        self.undone = []
        self.now = text

    def step_back(self):
        if self.before == []:
            raise Refused("nothing to undo")
        self.undone.append(self.now)
        self.now = self.before.pop()

    def step_forth(self):
        if self.undone == []:
            raise Refused("nothing to redo")
        self.before.append(self.now)
        self.now = self.undone.pop()
