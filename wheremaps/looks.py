"""Looks into a map: where a place came from, and where a place went."""

from wheremaps.bounds import has_origin


def look_forward(segments, line, col):
    """The last segment of that line whose col isn't above; or None."""
    found = None
    for segment in segments:
        if segment[0] == line and segment[1] <= col:
            found = segment
    return found


def came_from_line(segment, source, line):
    """Whether the segment has an origin, on that line of that source."""
    return has_origin(segment) and segment[2] == source and segment[3] == line


def look_back(segments, source, line, col):
    """Of the segments from that line, with a col there not above, the first of the greatest such col; or None."""
    found = None
    for segment in segments:
        if came_from_line(segment, source, line) and segment[4] <= col:
            if found is None or segment[4] > found[4]:
                found = segment
    return found
