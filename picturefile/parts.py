"""A file's parts: a kind, a length, a body and a sum."""

from picturefile.model import BYTE_VALUES

SUM_START = 7
SUM_FACTOR = 31
SUM_MODULUS = 65521

# The kind and the two bytes of the length stand ahead of the body, the sum's two behind it.
AHEAD = 3
BEHIND = 2


def byte_sum(some_bytes):
    s = SUM_START
    for x in some_bytes:
        s = (SUM_FACTOR * s + x + 1) % SUM_MODULUS
    return s


def two_bytes(number):
    return [number // BYTE_VALUES, number % BYTE_VALUES]


def written_part(kind, body):
    summed = [kind] + two_bytes(len(body)) + body
    return summed + two_bytes(byte_sum(summed))


def whole_part(some_bytes, at):
    """The kind, the body and the place behind the part that begins at this place.

    None if it isn't whole or its sum is another one.
    """
    body_at = at + AHEAD
    if body_at > len(some_bytes):
        return None
    body_end = body_at + some_bytes[at + 1] * BYTE_VALUES + some_bytes[at + 2]
    behind = body_end + BEHIND
    if behind > len(some_bytes):
        return None
    if some_bytes[body_end:behind] != two_bytes(byte_sum(some_bytes[at:body_end])):
        return None
    return (some_bytes[at], some_bytes[body_at:body_end], behind)
