"""Catalogues: contents that are edited, and the contents before, to which an edit can be undone."""

from orrery.book.differences import differences
from orrery.book.edits import apply_edit

MOST_EARLIER = 100


class Catalogue:
    """Contents, a version, and earlier contents."""

    def __init__(self, contents):
        self.contents = contents
        self.version = 0
        self._earlier = []

    def edit(self, edit):
        """Applies an edit; returns the differences of the contents before and after."""
        before = self.contents
        after = apply_edit(before, edit)
        self._earlier.append(before)
        if len(self._earlier) > MOST_EARLIER:
            del self._earlier[0]
        return self._go_over_to(after)

    def undo(self):
        """Goes back to the last earlier contents; returns the differences, or None without any."""
        if not self._earlier:
            return None
        return self._go_over_to(self._earlier.pop())

    def _go_over_to(self, after):
        before = self.contents
        self.contents = after
        self.version += 1
        return differences(before, after)
