"""Shows: lists of stretches (begin, end, pace) of the reel, one behind another."""

from reels.errors import OffReel
from reels.fracs import NOUGHT, added, is_below, larger, less, over, smaller, timed


def lasting(stretch):
    """Tell how long a stretch lasts in the show."""
    begin, end, pace = stretch
    return over(less(end, begin), pace)


def timetable(show):
    """Tell each stretch as (start, stop, stretch), with the times at which it is shown."""
    rows = []
    start = NOUGHT
    for stretch in show:
        stop = added(start, lasting(stretch))
        rows.append((start, stop, stretch))
        start = stop
    return rows


def length(show):
    """Tell how long a show lasts."""
    total = NOUGHT
    for stretch in show:
        total = added(total, lasting(stretch))
    return total


def normal(show):
    """Tell the normal show that shows the same."""
    joined = []
    for begin, end, pace in show:
        first = begin
        if joined and joined[-1][1] == begin and joined[-1][2] == pace:
            first = joined.pop()[0]
        joined.append((first, end, pace))
    return joined


def place_in(stretch, since):
    """Tell the place on the reel that a stretch has come to after some time."""
    begin, end, pace = stretch
    return added(begin, timed(since, pace))


def frame_at(show, time):
    """Tell the place on the reel that is shown at a time; refuse with OffReel."""
    for start, stop, stretch in timetable(show):
        if is_below(time, stop):
            return place_in(stretch, less(time, start))
    raise OffReel("the time is not below the length of the show")


def taken(show, begin, end):
    """Tell the normal show of what lies between two times; refuse with OffReel."""
    if is_below(end, begin):
        raise OffReel("the first time is greater than the second")
    if is_below(length(show), end):
        raise OffReel("the second time is beyond the length of the show")
    pieces = []
    for start, stop, stretch in timetable(show):
        first = larger(begin, start)
        last = smaller(end, stop)
        if is_below(first, last):
            pieces.append(piece(stretch, less(first, start), less(last, start)))
    return normal(pieces)


def piece(stretch, since, until):
    """Tell the stretch that a stretch shows between two times counted from its start."""
    return (place_in(stretch, since), place_in(stretch, until), stretch[2])
