"""The calls on four maps, handed in as one list of whole numbers and answered as one."""

from wheremaps.bounds import is_behind, is_segment
from wheremaps.texts import read_map, written_map

MOST_SEGMENTS = 200

ADD = 0
READ = 1
WRITE = 2
COUNT = 3
GET = 4


class UnknownCall(ValueError):
    """A call's number is none of those that are answered."""


def call_end(calls, start):
    """Where the call that begins at start ends."""
    number = calls[start]
    if number == ADD or number == READ:
        return start + 3 + calls[start + 2]
    if number == WRITE or number == COUNT:
        return start + 2
    if number == GET:
        return start + 3
    raise UnknownCall(f"no such call: {number}")


def answer_add(held, k, numbers):
    """0; or -1: no segment; -2: not behind the last one; -4: the map is full."""
    if not is_segment(numbers):
        return [-1]
    if not is_behind(numbers, held[k]):
        return [-2]
    if len(held[k]) >= MOST_SEGMENTS:
        return [-4]
    held[k].append(tuple(numbers))
    return [0]


def answer_read(held, k, text):
    """How many segments; or -3 and how many bytes are right; or -4: too many segments."""
    found = read_map(text)
    segments = found[0]
    if segments is None:
        return [-3, found[1]]
    if len(segments) > MOST_SEGMENTS:
        return [-4]
    held[k] = segments
    return [len(segments)]


def answer_write(held, k):
    """How many bytes the map's text has, and they."""
    text = written_map(held[k])
    return [len(text)] + text


def answer_get(held, k, i):
    """1 and segment i; or 0: there is none."""
    if i >= len(held[k]):
        return [0]
    return [1] + list(held[k][i])


def answer_call(held, call):
    """One call's answer, or its refusal."""
    number = call[0]
    k = call[1]
    if k >= len(held):
        return [-1]
    if number == ADD:
        return answer_add(held, k, call[3:])
    if number == READ:
        return answer_read(held, k, call[3:])
    if number == WRITE:
        return answer_write(held, k)
    if number == COUNT:
        return [len(held[k])]
    return answer_get(held, k, call[2])


def answers(calls):
    """The answers to the calls, in order, each behind how many numbers it has."""
    held = [[], [], [], []]
    told = []
    start = 0
    while start < len(calls):
        end = call_end(calls, start)
        answer = answer_call(held, calls[start:end])
        told.append(len(answer))
        told.extend(answer)
        start = end
    return told
