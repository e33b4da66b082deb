"""Cues: words over frames of the reel, and where they stand in a show."""

from reels.fracs import added, common_bottom, is_below, larger, less, over, scaled, smaller
from reels.shows import timetable


def parts(show, cue):
    """Tell the parts (begin, end, words) of a cue in a show."""
    return parts_in(timetable(show), cue)


def parts_in(table, cue):
    """Tell the parts of a cue in the show of a timetable."""
    told = []
    for first, last, begin, end in runs(table, cue):
        told.append((begin, end, words_between(cue[3], first, last)))
    return told


def runs(table, cue):
    """Tell where a cue's frames run on without a break: (first place, last place, begin, end)."""
    joined = []
    for start, stop, stretch in table:
        first = larger(cue[1], stretch[0])
        last = smaller(cue[2], stretch[1])
        if is_below(first, last):
            run = (first, last, time_of(first, start, stretch), time_of(last, start, stretch))
            if joined and goes_on(joined[-1], run):
                ahead = joined.pop()
                run = (ahead[0], last, ahead[2], run[3])
            joined.append(run)
    return joined


def time_of(place, start, stretch):
    """Tell when a place is shown by a stretch that starts at a time."""
    begin, end, pace = stretch
    return added(start, over(less(place, begin), pace))


def goes_on(one, two):
    """Tell whether the second run goes on, on the reel and in the show, where the first ends."""
    return one[1] == two[0] and one[3] == two[2]


def words_between(words, first, last):
    """Tell the words from one place on, ahead of another."""
    return [word for word, place in words if not is_below(place, first) and is_below(place, last)]


def listing(show, cues):
    """Tell a row (begin, end, number, words) for each part of each cue, in order."""
    table = timetable(show)
    rows = []
    for cue in cues:
        for begin, end, words in parts_in(table, cue):
            rows.append((begin, end, cue[0], words))
    return in_order(rows)


def in_order(rows):
    """Tell rows by begins, then by numbers, then by ends."""
    # Pairs do not sort as their fractions do; whole numbers over one bottom do.
    bottom = common_bottom([row[0] for row in rows] + [row[1] for row in rows])
    return sorted(rows, key=lambda row: (scaled(row[0], bottom), row[2], scaled(row[1], bottom)))
