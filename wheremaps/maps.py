"""The calls on four maps, handed in as one list of whole numbers and answered as one."""

from wheremaps.bounds import are_behind, are_segments, is_behind, is_segment
from wheremaps.looks import look_back, look_forward
from wheremaps.texts import read_map, written_map
from wheremaps.together import all_moved, joined

MOST_SEGMENTS = 200

ADD = 0
READ = 1
WRITE = 2
COUNT = 3
GET = 4
AT = 5
BACK = 6
JOIN = 7
APPEND = 8
CLEAR = 9

# How many numbers each call has, but for those of its row, which the last of these tells.
SIZES_OF_CALLS = (3, 3, 2, 2, 3, 4, 5, 6, 7, 2)


class UnknownCall(ValueError):
    """A call's number is none of those that are answered."""


def call_end(calls, start):
    """Where the call that begins at start ends."""
    number = calls[start]
    if number < 0 or number >= len(SIZES_OF_CALLS):
        raise UnknownCall(f"no such call: {number}")
    end = start + SIZES_OF_CALLS[number]
    if number == ADD or number == READ:
        return end + calls[end - 1]
    return end


def answer_add(held, k, numbers):
    """0; or -1: no segment; -2: not behind the last one; -4: the map is full."""
    if not is_segment(numbers):
        return [-1]
    if not is_behind(numbers, held[k]):
        return [-2]
    if len(held[k]) >= MOST_SEGMENTS:
        return [-4]
    held[k].append(tuple(numbers))
    return [0]


def answer_read(held, k, text):
    """How many segments; or -3 and how many bytes are right; or -4: too many segments."""
    found = read_map(text)
    segments = found[0]
    if segments is None:
        return [-3, found[1]]
    if len(segments) > MOST_SEGMENTS:
        return [-4]
    held[k] = segments
    return [len(segments)]


def answer_write(held, k):
    """How many bytes the map's text has, and they."""
    text = written_map(held[k])
    return [len(text)] + text


def answer_found(segment):
    """1 and the segment; or 0: there is none."""
    if segment is None:
        return [0]
    return [1] + list(segment)


def answer_get(held, k, i):
    """1 and segment i; or 0: there is none."""
    return answer_found(held[k][i] if i < len(held[k]) else None)


def answer_join(held, k, segments):
    """0: the map has become these segments; or -6: a number is above its bound."""
    if not are_segments(segments):
        return [-6]
    held[k] = segments
    return [0]


def answer_append(held, k, segments):
    """0: these stand behind the map's; or -2: not behind its last one; -4: too many; -6: a number above its bound."""
    if not are_behind(segments, held[k]):
        return [-2]
    if len(held[k]) + len(segments) > MOST_SEGMENTS:
        return [-4]
    if not are_segments(segments):
        return [-6]
    held[k] = held[k] + segments
    return [0]


def answer_clear(held, k):
    """0: the map is empty."""
    held[k] = []
    return [0]


def answer_of_one(held, call):
    """The answer to a call on one map."""
    number = call[0]
    k = call[1]
    if number == ADD:
        return answer_add(held, k, call[3:])
    if number == READ:
        return answer_read(held, k, call[3:])
    if number == WRITE:
        return answer_write(held, k)
    if number == COUNT:
        return [len(held[k])]
    if number == GET:
        return answer_get(held, k, call[2])
    if number == AT:
        return answer_found(look_forward(held[k], call[2], call[3]))
    if number == BACK:
        return answer_found(look_back(held[k], call[2], call[3], call[4]))
    return answer_clear(held, k)


def answer_of_two(held, call):
    """The answer to a call on two maps, of which one may be the other."""
    k = call[1]
    j = call[2]
    if j >= len(held):
        return [-1]
    if call[0] == JOIN:
        return answer_join(held, k, joined(held[k], held[j], call[3], call[4], call[5]))
    return answer_append(held, k, all_moved(held[j], call[3], call[4], call[5], call[6]))


def answer_call(held, call):
    """One call's answer, or its refusal."""
    if call[1] >= len(held):
        return [-1]
    if call[0] == JOIN or call[0] == APPEND:
        return answer_of_two(held, call)
    return answer_of_one(held, call)


def answers(calls):
    """The answers to the calls, in order, each behind how many numbers it has."""
    held = [[], [], [], []]
    told = []
    start = 0
    while start < len(calls):
        end = call_end(calls, start)
        answer = answer_call(held, calls[start:end])
        told.append(len(answer))
        told.extend(answer)
        start = end
    return told
