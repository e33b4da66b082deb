"""A reel: a show, and the deeds by which it is cut anew, undone and done again."""

from reels.errors import NoDeed
from reels.fracs import NOUGHT, timed
from reels.shows import length, normal, taken


class Reel:
    """A show that is always normal, with the shows that back and again go to."""

    def __init__(self, show):
        # No list of stretches that is kept here is ever changed: a deed makes a new one.
        self.current = normal(show)
        self.earlier = []
        self.undone = []

    def show(self):
        """Tell the show as it is now."""
        return list(self.current)

    def out(self, begin, end):
        """Take what lies between two times out, and tell it; refuse with OffReel."""
        told = taken(self.current, begin, end)
        self.fill(begin, end, [])
        return told

    def into(self, time, other):
        """Put a show in at a time; refuse with OffReel."""
        self.fill(time, time, other)

    def faster(self, begin, end, factor):
        """Make what lies between two times run so many times as fast; refuse with OffReel."""
        slower = taken(self.current, begin, end)
        self.fill(begin, end, [(first, last, timed(pace, factor)) for first, last, pace in slower])

    def fill(self, begin, end, stretches):
        """Do a deed: put stretches where what lies between two times stood."""
        # Both refuse, if they do, while nothing is changed yet.
        ahead = taken(self.current, NOUGHT, begin)
        behind = taken(self.current, end, length(self.current))
        self.earlier.append(self.current)
        self.undone.clear()
        self.current = normal(ahead + stretches + behind)

    def back(self):
        """Undo the last deed that stands; refuse with NoDeed."""
        if not self.earlier:
            raise NoDeed("no deed stands")
        self.undone.append(self.current)
        self.current = self.earlier.pop()

    def again(self):
        """Do the last deed anew that was undone; refuse with NoDeed."""
        if not self.undone:
            raise NoDeed("no deed was undone since the last one")
        self.earlier.append(self.current)
        self.current = self.undone.pop()
