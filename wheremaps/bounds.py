"""What a segment may be, and which may stand behind which.

A segment is a tuple of 2, 5 or 6 whole numbers: the line and col of its place
in the made text, then perhaps the source, line and col of its origin, then
perhaps its name.
"""

SIZES = (2, 5, 6)
GREATEST_LINE = 4095
GREATEST_NUMBER = 2147483647


def is_segment(numbers):
    """Whether there are as many numbers as a segment has, each within its bounds."""
    if len(numbers) not in SIZES:
        return False
    if numbers[0] > GREATEST_LINE:
        return False
    for number in numbers:
        if number < 0 or number > GREATEST_NUMBER:
            return False
    return True


def are_segments(rows):
    """Whether each of the rows of numbers is a segment."""
    for numbers in rows:
        if not is_segment(numbers):
            return False
    return True


def has_origin(segment):
    """Whether it is known where the segment came from."""
    return len(segment) >= 5


def has_name(segment):
    """Whether the segment's origin has a name."""
    return len(segment) == 6


def is_behind(segment, segments):
    """Whether the segment may stand behind the last of the segments, if there is one."""
    if len(segments) == 0:
        return True
    last = segments[-1]
    if segment[0] == last[0]:
        return segment[1] > last[1]
    return segment[0] > last[0]


def are_behind(others, segments):
    """Whether each of the others may stand behind the last of the segments, if there is one."""
    for segment in others:
        if not is_behind(segment, segments):
            return False
    return True
