"""What the tests share: calls and answers, and a slow and plain reading of the document.

The plain reading shares no code with the program. A text is right here if the
map that it seems to say is a map and has this text by the words for writing;
where it goes wrong is looked for in all its beginnings.
"""

from wheremaps.maps import answers

HUGE = 18446744073709551615
MOST = 2147483647
LAST_LINE = 4095
DIGITS = b"ABCDEFGHIJKLMNOPQRSTUVWXYZabcdefghijklmnopqrstuvwxyz0123456789+/"


class Unchanging(list):
    """A list that fails at any try to change it."""

    def refuse(self, *given, **named):
        raise AssertionError("what was handed in was changed")

    append = clear = extend = insert = pop = remove = reverse = sort = refuse
    __setitem__ = __delitem__ = __iadd__ = __imul__ = refuse


def add(k, *segment):
    return [0, k, len(segment), *segment]


def read(k, text):
    return [1, k, len(text), *text]


def write(k):
    return [2, k]


def count(k):
    return [3, k]


def get(k, i):
    return [4, k, i]


def at(k, line, col):
    return [5, k, line, col]


def back(k, src, line, col):
    return [6, k, src, line, col]


def join(k, j, src, base, names):
    return [7, k, j, src, base, names]


def append(k, j, line, col, base, names):
    return [8, k, j, line, col, base, names]


def clear(k):
    return [9, k]


def split_answers(told):
    rows = []
    place = 0
    while place < len(told):
        size = told[place]
        row = told[place + 1:place + 1 + size]
        if size < 1 or len(row) != size:
            raise AssertionError(f"no row of answers: {told}")
        rows.append(row)
        place += 1 + size
    return rows


def ask(*calls):
    """The answers to the calls, a list each; the calls must be such as may be handed in."""
    flat = [number for call in calls for number in call]
    if not 1 <= len(calls) <= 60 or len(flat) > 6000:
        raise AssertionError("more than may be handed in")
    told = answers(Unchanging(flat))
    if type(told) is not list or any(type(number) is not int for number in told):
        raise AssertionError(f"no list of whole numbers: {told}")
    rows = split_answers(told)
    if len(rows) != len(calls):
        raise AssertionError(f"{len(calls)} calls, {len(rows)} answers")
    return rows


def text_answer(text):
    """How write answers a text."""
    return [len(text), *text]


def holding(k, segments):
    """One call that makes map k, which is empty, these segments, which are a map."""
    # One that stands far down has a long text: two such wouldn't go into one list.
    return add(k, *segments[0]) if len(segments) == 1 else read(k, plain_text(segments))


def ask_and_show(*calls):
    """The answers to the calls, and the four maps as they are behind them, by their texts."""
    told = ask(*calls, *[write(k) for k in range(4)])
    return told[:-4], [map_of_right_text(bytes(row[1:])) for row in told[-4:]]


def line_of_segments(many):
    """The text of so many segments: (0, 0), (0, 1), (0, 2) .."""
    return b",".join([b"A"] + [b"C"] * (many - 1))


# The plain reading of the document.

def plain_number(number):
    bits = bin(2 * number if number >= 0 else 2 * -number + 1)[2:]
    groups = []
    while bits:
        groups.append(int(bits[-5:], 2))
        bits = bits[:-5]
    return bytes(DIGITS[group + 32] for group in groups[:-1]) + bytes([DIGITS[groups[-1]]])


def plain_text(segments):
    text = b""
    for i, segment in enumerate(segments):
        before = segments[:i]
        line_before = before[-1][0] if before else 0
        if segment[0] > line_before:
            text += b";" * (segment[0] - line_before)
        elif before:
            text += b","
        same_line = [other for other in before if other[0] == segment[0]]
        text += plain_number(segment[1] - (same_line[-1][1] if same_line else 0))
        if len(segment) >= 5:
            origins = [other for other in before if len(other) >= 5]
            from_there = origins[-1][2:5] if origins else (0, 0, 0)
            for number, less in zip(segment[2:5], from_there):
                text += plain_number(number - less)
        if len(segment) == 6:
            names = [other[5] for other in before if len(other) == 6]
            text += plain_number(segment[5] - (names[-1] if names else 0))
    return text


def is_plain_segment(segment):
    return (len(segment) in (2, 5, 6) and all(0 <= number <= MOST for number in segment)
            and segment[0] <= LAST_LINE)


def is_plain_map(segments):
    return (all(is_plain_segment(segment) for segment in segments)
            and all(one[:2] < two[:2] for one, two in zip(segments, segments[1:])))


def seeming_numbers(piece):
    """The numbers of the digits, without asking if they are rightly written."""
    numbers = []
    groups = []
    for byte in piece:
        digit = DIGITS.index(byte)
        groups.append(digit % 32)
        if digit < 32:
            value = sum(group * 32 ** i for i, group in enumerate(groups))
            numbers.append(-(value // 2) if value % 2 else value // 2)
            groups = []
    return numbers


def seeming_map(text):
    """The map that a text seems to say, without asking if it's right; None if it seems to say none."""
    segments = []
    for line, row in enumerate(text.split(b";")):
        for piece in row.split(b",") if row else []:
            if any(byte not in DIGITS for byte in piece):
                return None
            numbers = seeming_numbers(piece)
            if len(numbers) not in (1, 4, 5):
                return None
            cols = [other[1] for other in segments if other[0] == line]
            origins = [other[2:5] for other in segments if len(other) >= 5]
            names = [other[5] for other in segments if len(other) == 6]
            less = (cols[-1:] or [0]) + list((origins[-1:] or [(0, 0, 0)])[0]) + (names[-1:] or [0])
            segments.append((line, *[number + last for number, last in zip(numbers, less)]))
    return segments


def map_of_right_text(text):
    """The map of a right text; None if the text isn't right."""
    text = text.rstrip(b";")
    segments = seeming_map(text)
    if segments is None or not is_plain_map(segments) or plain_text(segments) != text:
        return None
    return segments


def right_bytes(text):
    """How many bytes of a text that isn't right are right."""
    for size in range(len(text), 0, -1):
        beginning = text[:size]
        if beginning.endswith(b";") and map_of_right_text(beginning) is not None:
            return size
        before = beginning[:-1]
        ends_in_segment = before != b"" and not before.endswith(b";")
        if beginning.endswith(b",") and ends_in_segment and map_of_right_text(before) is not None:
            return size
    return 0


def plain_add(maps, k, segment):
    if not is_plain_segment(segment):
        return [-1]
    if maps[k] and maps[k][-1][:2] >= tuple(segment[:2]):
        return [-2]
    if len(maps[k]) == 200:
        return [-4]
    maps[k].append(tuple(segment))
    return [0]


def plain_read(maps, k, text):
    segments = map_of_right_text(text)
    if segments is None:
        return [-3, right_bytes(text)]
    if len(segments) > 200:
        return [-4]
    maps[k] = segments
    return [len(segments)]


def plain_forward(segments, line, col):
    fit = [segment for segment in segments if segment[0] == line and not segment[1] > col]
    return fit[-1] if fit else None


def plain_back(segments, src, line, col):
    fit = [segment for segment in segments if segment[2:4] == (src, line) and not segment[4] > col]
    greatest = max((segment[4] for segment in fit), default=None)
    return next((segment for segment in fit if segment[4] == greatest), None)


def plain_through(segment, b, src, base, names):
    """The segment through b, by the document's words; the segment may be None, for a look that finds none."""
    if segment is None or segment[2:3] != (src,):
        return segment
    found = plain_forward(b, segment[3], segment[4]) or ()
    origin = [found[2] + base, *found[3:5]] if found[2:] else []
    name = segment[5:] or [number + names for number in found[5:]]
    return (*segment[:2], *origin, *(name if origin else []))


def plain_moved(segment, line, col, base, names):
    """The segment with what append adds; the segment may be None, for a look that finds none."""
    if segment is None:
        return None
    added = (line, col if segment[0] == 0 else 0, base, 0, 0, names)
    return tuple(number + more for number, more in zip(segment, added))


def plain_found(segment):
    return [0] if segment is None else [1, *segment]


def plain_join(maps, k, j, src, base, names):
    through = [plain_through(segment, maps[j], src, base, names) for segment in maps[k]]
    if not all(is_plain_segment(segment) for segment in through):
        return [-6]
    maps[k] = through
    return [0]


def plain_append(maps, k, j, line, col, base, names):
    moved = [plain_moved(segment, line, col, base, names) for segment in maps[j]]
    if any(segment[:2] <= last[:2] for last in maps[k][-1:] for segment in moved):
        return [-2]
    if len(maps[k]) + len(moved) > 200:
        return [-4]
    if not all(is_plain_segment(segment) for segment in moved):
        return [-6]
    maps[k] = maps[k] + moved
    return [0]


def plain_answer(maps, call):
    """What the document asks as the answer to one call."""
    number, k, rest = call[0], call[1], call[2:]
    if k > 3:
        return [-1]
    if number in (7, 8):
        if rest[0] > 3:
            return [-1]
        return plain_join(maps, k, *rest) if number == 7 else plain_append(maps, k, *rest)
    if number == 5:
        return plain_found(plain_forward(maps[k], *rest))
    if number == 6:
        return plain_found(plain_back(maps[k], *rest))
    if number == 9:
        maps[k] = []
        return [0]
    if number == 0:
        return plain_add(maps, k, rest[1:])
    if number == 1:
        return plain_read(maps, k, bytes(rest[1:]))
    if number == 2:
        return text_answer(plain_text(maps[k]))
    if number == 3:
        return [len(maps[k])]
    return plain_found(maps[k][rest[0]] if rest[0] < len(maps[k]) else None)


def plain_ask(*calls):
    maps = [[], [], [], []]
    return [plain_answer(maps, call) for call in calls]


# Maps and texts by a source of chance that the test begins at a told number.

def chance_number(chance):
    return chance.choice([0, 1, chance.randrange(20), chance.randrange(2000), chance.randrange(MOST + 1), MOST])


def chance_map(chance, most):
    """A map of at most so many segments."""
    places = {}
    for _ in range(chance.randrange(most + 1)):
        line = chance.choice([chance.randrange(3), chance.randrange(12), chance.randrange(12)])
        if chance.randrange(40) == 0:
            line = LAST_LINE - chance.randrange(2)
        places[(line, chance_number(chance))] = True
    segments = []
    for place in sorted(places):
        rest = [chance_number(chance) for _ in range(chance.choice([0, 3, 4]))]
        segments.append((*place, *rest))
    return segments


def near_map(chance, most):
    """A map of at most so many segments with small numbers, so that looks find and segments meet."""
    places = {(chance.randrange(3), chance.randrange(8)) for _ in range(chance.randrange(most + 1))}
    segments = []
    for place in sorted(places):
        origin = (chance.randrange(2), chance.randrange(3), chance.randrange(8), chance.randrange(4))
        segments.append((*place, *origin[:chance.choice([0, 3, 3, 4])]))
    return segments
