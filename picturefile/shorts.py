"""Bytes told in short, and read again."""

FEWEST_ALIKE = 3
MOST_ALIKE = 130
MOST_UNLIKE = 128

# A stretch's first byte: below FIRST_ALIKE it tells bytes that stand behind it,
# from there on how often one byte is meant.
FIRST_ALIKE = 128
ALIKE_MORE = 125


def alike_from(numbers, at):
    """How many numbers from at on are the same one, as far as one stretch tells them."""
    last = min(len(numbers), at + MOST_ALIKE)
    end = at
    while end < last and numbers[end] == numbers[at]:
        end += 1
    return end - at


def begins_alike(numbers, at):
    """Whether enough alike ones stand at this place for a stretch of their own."""
    return alike_from(numbers, at) >= FEWEST_ALIKE


def unlike_from(numbers, at):
    """How many numbers from at on are told as they are, by one stretch."""
    last = min(len(numbers), at + MOST_UNLIKE)
    end = at + 1
    while end < last and not begins_alike(numbers, end):
        end += 1
    return end - at


def in_short(numbers):
    told = []
    at = 0
    while at < len(numbers):
        count = alike_from(numbers, at)
        if count >= FEWEST_ALIKE:
            told.append(ALIKE_MORE + count)
            told.append(numbers[at])
        else:
            count = unlike_from(numbers, at)
            told.append(count - 1)
            told.extend(numbers[at:at + count])
        at += count
    return told


def read_stretch(some_bytes, at):
    """The bytes that the stretch at this place tells, and the place behind it; None if it isn't whole."""
    if at + 1 >= len(some_bytes):
        return None
    first = some_bytes[at]
    if first >= FIRST_ALIKE:
        return ([some_bytes[at + 1]] * (first - ALIKE_MORE), at + 2)
    behind = at + 1 + first + 1
    if behind > len(some_bytes):
        return None
    return (some_bytes[at + 1:behind], behind)


def read_short(some_bytes, at, wanted):
    """Just as many bytes as wanted, and the place behind their short form; None if it isn't so formed."""
    numbers = []
    while len(numbers) < wanted:
        stretch = read_stretch(some_bytes, at)
        if stretch is None:
            return None
        numbers.extend(stretch[0])
        at = stretch[1]
    if len(numbers) > wanted:
        return None
    return (numbers, at)


def whole_short(some_bytes, wanted):
    """The bytes that all of these tell; None if they aren't just as many as wanted, so formed."""
    short = read_short(some_bytes, 0, wanted)
    if short is None or short[1] != len(some_bytes):
        return None
    return short[0]
