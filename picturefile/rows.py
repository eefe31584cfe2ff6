"""A layer's rows, as they're written, and read again."""

from picturefile.model import BYTE_VALUES
from picturefile.shorts import in_short, read_short

AS_IT_IS = 0
LESS_BEFORE = 1
LESS_ABOVE = 2


def less(row, others):
    return [(x - y) % BYTE_VALUES for x, y in zip(row, others)]


def written_row(row, above):
    """The way's number and the short form; above is all 0 for the first row, which so stands as it is."""
    best = [AS_IT_IS] + in_short(row)
    for way, others in ((LESS_BEFORE, [0] + row), (LESS_ABOVE, above)):
        told = [way] + in_short(less(row, others))
        if len(told) < len(best):
            best = told
    return best


def written_rows(numbers, columns):
    written = []
    above = [0] * columns
    for start in range(0, len(numbers), columns):
        row = numbers[start:start + columns]
        written.extend(written_row(row, above))
        above = row
    return written


def added_up(told):
    """The row of which each number was told less the one before it."""
    row = []
    before = 0
    for x in told:
        before = (before + x) % BYTE_VALUES
        row.append(before)
    return row


def untold(way, told, above):
    """The row that was told by this way."""
    if way == LESS_BEFORE:
        return added_up(told)
    if way == LESS_ABOVE:
        return [(x + y) % BYTE_VALUES for x, y in zip(told, above)]
    return told


def read_rows(body, at, columns, rows):
    """The numbers of all rows, which fill the body from at to its end; None if they aren't so formed."""
    numbers = []
    above = [0] * columns
    while len(numbers) < columns * rows:
        if at >= len(body) or body[at] > LESS_ABOVE:
            return None
        short = read_short(body, at + 1, columns)
        if short is None:
            return None
        above = untold(body[at], short[0], above)
        numbers.extend(above)
        at = short[1]
    if at < len(body):
        return None
    return numbers
