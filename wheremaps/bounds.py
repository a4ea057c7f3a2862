"""What a segment may be, and which may stand behind which.

A segment is a tuple of 2, 5 or 6 whole numbers: the line and col of its place
in the made text, then perhaps the source, line and col of its origin, then
perhaps its name.
"""

SIZES = (2, 5, 6)
GREATEST_LINE = 4095
GREATEST_NUMBER = 2147483647


def is_segment(numbers):
    """Whether there are as many numbers as a segment has, each within its bounds."""
    if len(numbers) not in SIZES:
        return False
    if numbers[0] > GREATEST_LINE:
        return False
    for number in numbers:
        if number < 0 or number > GREATEST_NUMBER:
            return False
    return True


def is_behind(segment, segments):
    """Whether the segment may stand behind the last of the segments, if there is one."""
    if len(segments) == 0:
        return True
    last = segments[-1]
    if segment[0] == last[0]:
        return segment[1] > last[1]
    return segment[0] > last[0]
