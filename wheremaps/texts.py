"""Maps and their texts; a text is a list of bytes.

Writing and reading both keep a row `last` of six numbers: at each place of a
segment, the number there that the next one is told from. The first is the
line that has been come to; the col begins at 0 again on each line.
"""

from wheremaps.bounds import is_behind, is_segment
from wheremaps.digits import read_numbers, written_number

COMMA = 44
SEMICOLON = 59


def begin_line(last, line):
    """Come to a line on which no segment stands yet."""
    last[0] = line
    last[1] = 0


def remember(last, segment):
    """Let what is told next be told from this segment, where it has numbers."""
    for place in range(len(segment)):
        last[place] = segment[place]


def written_map(segments):
    """The map's text."""
    text = []
    last = [0, 0, 0, 0, 0, 0]
    for segment in segments:
        if segment[0] > last[0]:
            text.extend([SEMICOLON] * (segment[0] - last[0]))
            begin_line(last, segment[0])
        elif len(text) > 0:
            text.append(COMMA)
        for place in range(1, len(segment)):
            text.extend(written_number(segment[place] - last[place]))
        remember(last, segment)
    return text


def piece_end(text, start):
    """Where the piece of the text that begins at start ends: at the next , or ; or at the text's end."""
    end = start
    while end < len(text) and text[end] != COMMA and text[end] != SEMICOLON:
        end = end + 1
    return end


def read_segment(piece, last):
    """The segment that a piece between , and ; says, or None if it says none."""
    steps = read_numbers(piece)
    if steps is None or len(steps) >= len(last):
        return None
    numbers = [last[0]]
    for step in steps:
        numbers.append(last[len(numbers)] + step)
    if not is_segment(numbers):
        return None
    return tuple(numbers)


def read_map(text):
    """A pair: the map that a right text says, and how many bytes are right; None for the map if the text is wrong."""
    segments = []
    last = [0, 0, 0, 0, 0, 0]
    start = 0
    behind_comma = False
    while start <= len(text):
        end = piece_end(text, start)
        before_comma = end < len(text) and text[end] == COMMA
        if end > start:
            segment = read_segment(text[start:end], last)
            if segment is None or not is_behind(segment, segments):
                return (None, start)
            segments.append(segment)
            remember(last, segment)
        elif behind_comma or before_comma:
            return (None, start)
        if not before_comma:
            begin_line(last, last[0] + 1)
        behind_comma = before_comma
        start = end + 1
    return (segments, len(text))
