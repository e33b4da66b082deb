"""Cues as texts: written as lines, and read back."""

from reels.errors import BadNote, BadTime
from reels.fracs import is_below
from reels.times import as_frames, read_frames, read_number

LETTERS = "abcdefghijklmnopqrstuvwxyz"
MOST_LETTERS = 20
CUE = "cue "
WORD = "  "


def written(cues):
    """Write cues as lines."""
    lines = []
    for number, begin, end, words in cues:
        lines.append(f"{CUE}{number} from {as_frames(begin)} to {as_frames(end)}")
        for word, time in words:
            lines.append(f"{WORD}{word} at {as_frames(time)}")
    return "\n".join(lines)


def read_cues(text):
    """Read cues from their lines; refuse others with BadNote."""
    if text == "":
        return []
    cues = []
    # Not splitlines: it ends lines at other signs, too, and passes over a line end at the end.
    for at, line in enumerate(text.split("\n")):
        try:
            read_line(line, at, cues)
        except BadTime:
            raise BadNote(at) from None
    return cues


def read_line(line, at, cues):
    """Add what a line tells to the cues of the lines ahead; refuse with BadNote or BadTime."""
    if line.startswith(CUE):
        cues.append(read_cue(line[len(CUE):], at, cues))
    elif line.startswith(WORD) and cues:
        number, begin, end, words = cues[-1]
        # The cue's last word, or its begin where it has none yet.
        earliest = words[-1][1] if words else begin
        words.append(read_word(line[len(WORD):], at, earliest, end))
    else:
        raise BadNote(at)


def read_cue(line, at, cues):
    """Read a cue, still without words, behind other cues."""
    number_word, joint, span = line.partition(" from ")
    begin_text, joint, end_text = span.partition(" to ")
    number = read_number(number_word)
    begin = read_frames(begin_text)
    end = read_frames(end_text)
    if cues and number <= cues[-1][0]:
        raise BadNote(at)
    if not is_below(begin, end):
        raise BadNote(at)
    return (number, begin, end, [])


def read_word(line, at, earliest, end):
    """Read a word at a time that is not ahead of the earliest one, and ahead of the end."""
    word, joint, time_text = line.partition(" at ")
    time = read_frames(time_text)
    if not is_word(word):
        raise BadNote(at)
    if is_below(time, earliest) or not is_below(time, end):
        raise BadNote(at)
    return (word, time)


def is_word(text):
    """Tell whether a text is one to twenty small letters."""
    return 1 <= len(text) <= MOST_LETTERS and all(sign in LETTERS for sign in text)
