"""Times as texts: written as frames, as seconds or as a clock, and read back."""

from reels.errors import BadTime
from reels.fracs import NOUGHT, added, made, over, timed

FIGURES = "0123456789"
MOST_FIGURES = 9
SIXTY = 60


def with_rest(whole, top, bottom):
    """Write a text of the whole ones, and behind it the rest where one is left."""
    if top == 0:
        return whole
    return f"{whole} {top}/{bottom}"


def as_mixed(fraction):
    """Write a fraction as its whole number and its rest."""
    top, bottom = fraction
    return with_rest(f"{top // bottom}", top % bottom, bottom)


def as_frames(time):
    """Write a time as frames."""
    return as_mixed(time) + "f"


def as_seconds(time, rate):
    """Write a time as seconds of so many frames."""
    return as_mixed(over(time, (rate, 1))) + "s"


def as_clock(time, rate):
    """Write a time as hours, minutes, seconds and frames, so many a second."""
    top, bottom = time
    seconds, frames = divmod(top // bottom, rate)
    minutes, seconds = divmod(seconds, SIXTY)
    hours, minutes = divmod(minutes, SIXTY)
    clock = f"{hours}:{minutes:02d}:{seconds:02d}:{frames:02d}"
    return with_rest(clock, top % bottom, bottom)


def read_time(text, rate):
    """Read a time from any of its three texts; refuse others with BadTime."""
    if text.endswith("f"):
        return read_frames(text)
    if text.endswith("s"):
        return timed(read_mixed(text[:-1]), (rate, 1))
    return read_clock(text, rate)


def read_frames(text):
    """Read a time that is written as frames; refuse others with BadTime."""
    if not text.endswith("f"):
        raise BadTime("a time is not written as frames")
    return read_mixed(text[:-1])


def read_mixed(text):
    """Read a whole number and the rest that may stand behind it."""
    whole, blank, rest = text.partition(" ")
    return added((read_number(whole), 1), read_rest(blank, rest))


def read_clock(text, rate):
    """Read a clock's text to a time in frames."""
    clock, blank, rest = text.partition(" ")
    fields = clock.split(":")
    if len(fields) != 4:
        raise BadTime("a time is neither frames nor seconds nor a clock")
    hours = read_number(fields[0])
    minutes = hours * SIXTY + read_field(fields[1], SIXTY)
    seconds = minutes * SIXTY + read_field(fields[2], SIXTY)
    frames = seconds * rate + read_field(fields[3], rate)
    return added((frames, 1), read_rest(blank, rest))


def read_field(word, bound):
    """Read a number of two figures at the least that is below a bound."""
    if len(word) < 2:
        raise BadTime("minutes, seconds and frames of a clock have two figures at the least")
    # Only a number of one figure needs the nought ahead: 005 has one too many.
    needs_nought = len(word) == 2 and word[0] == "0"
    number = read_number(word[1:] if needs_nought else word)
    if number >= bound:
        raise BadTime("minutes, seconds or frames of a clock are too many")
    return number


def read_rest(blank, rest):
    """Read what stands behind a blank; without a blank no rest is left."""
    if blank == "":
        return NOUGHT
    top_word, slash, bottom_word = rest.partition("/")
    top = read_number(top_word)
    bottom = read_number(bottom_word)
    if top == 0 or top >= bottom:
        raise BadTime("a rest is not above nought and below 1")
    if made(top, bottom) != (top, bottom):
        raise BadTime("a rest is not in lowest terms")
    return (top, bottom)


def read_number(word):
    """Read one to nine figures without a needless nought ahead."""
    # Not isdigit or int: they take figures other than 0 to 9, too.
    if not all(sign in FIGURES for sign in word):
        raise BadTime("a number has a sign that is no figure")
    if word == "" or len(word) > MOST_FIGURES:
        raise BadTime("a number has not one to nine figures")
    if word[0] == "0" and word != "0":
        raise BadTime("a number has a needless nought ahead")
    return int(word)
