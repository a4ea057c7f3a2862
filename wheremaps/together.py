"""Maps put together: one behind the other, and one beside the other.

Both make rows of numbers of which some may be above their bounds: whether
these are segments is asked of the whole row of them, before a map is changed.
"""

from wheremaps.bounds import has_name, has_origin
from wheremaps.looks import look_forward


def through(segment, second, source, base, names):
    """What the segment is through the second map, which says where the places of that source came from."""
    if not has_origin(segment) or segment[2] != source:
        return segment
    place = segment[:2]
    found = look_forward(second, segment[3], segment[4])
    if found is None or not has_origin(found):
        return place
    origin = (found[2] + base, found[3], found[4])
    if has_name(segment):
        return place + origin + (segment[5],)
    if has_name(found):
        return place + origin + (found[5] + names,)
    return place + origin


def joined(first, second, source, base, names):
    """What each segment of the first map is through the second."""
    return [through(segment, second, source, base, names) for segment in first]


def moved(segment, line, col, base, names):
    """The segment where it stands when its text is strung behind another that ends at that line and col."""
    numbers = list(segment)
    numbers[0] = segment[0] + line
    # Only the first line of the text that is strung behind goes on where the other's last line ends.
    if segment[0] == 0:
        numbers[1] = segment[1] + col
    if has_origin(segment):
        numbers[2] = segment[2] + base
    if has_name(segment):
        numbers[5] = segment[5] + names
    return tuple(numbers)


def all_moved(segments, line, col, base, names):
    """The segments, each moved."""
    return [moved(segment, line, col, base, names) for segment in segments]
