"""Calls as they stand in the list, their answers one by one, and files made by hand."""

from picturefile.documents import answers

LARGEST = 4294967295
WRITE = [5]
SHOWS = [8]
OTHERS = [10]
NEW_FILE = [80, 73, 1, 0, 2, 1, 1, 80, 30, 0, 0, 0, 50, 167]


def page(w, h):
    return [0, w, h]


def layer(name):
    return [1, len(name)] + name


def cells(i, numbers):
    return [2, i, len(numbers)] + numbers


def other(kind, some_bytes):
    return [3, kind, len(some_bytes)] + some_bytes


def drop(i):
    return [4, i]


def read(some_bytes):
    return [6, len(some_bytes)] + some_bytes


def mend(some_bytes):
    return [7, len(some_bytes)] + some_bytes


def look(i):
    return [9, i]


def short(numbers):
    return [11, len(numbers)] + numbers


def long(n, some_bytes):
    return [12, n, len(some_bytes)] + some_bytes


def ask(*calls):
    """The answers to these calls, a list for each; calls are lists as the functions above make them."""
    given = answers([number for call in calls for number in call])
    split = []
    at = 0
    while at < len(given):
        split.append(given[at + 1:at + 1 + given[at]])
        assert len(split[-1]) == given[at], "an answer is shorter than its count"
        at += 1 + given[at]
    assert len(split) == len(calls), "not one answer for each call"
    return split


def last(*calls):
    return ask(*calls)[-1]


def file_of(*calls):
    """The file that is written after these calls."""
    written = last(*calls, WRITE)
    assert written[0] == len(written) - 1, "the file's count is wrong"
    return written[1:]


def part(kind, body):
    """A part with its sum, told by the powers of 31 instead of step by step."""
    told = [kind, len(body) >> 8, len(body) & 255] + body
    total = 7 * 31 ** len(told)
    for place, x in enumerate(reversed(told)):
        total += (x + 1) * 31 ** place
    total %= 65521
    return told + [total >> 8, total & 255]


def spoilt(one):
    """The part with another sum."""
    return one[:-1] + [(one[-1] + 1) % 256]


def file_with(*parts):
    return [80, 73] + [x for one in parts for x in one]


END = part(0, [])


def different(count):
    """So many numbers of which no two neighbours are alike."""
    return [k % 251 for k in range(count)]


def any_bytes(chance, most):
    return [chance.randrange(256) for x in range(chance.randint(0, most))]


def any_document(chance):
    """Calls that make some document or other."""
    w, h, values = chance.randint(1, 8), chance.randint(1, 8), chance.choice((2, 4, 256))
    calls = [page(w, h)]
    for i in range(chance.randint(0, 6)):
        calls += [layer(any_bytes(chance, 12)), cells(i, [chance.randrange(values) for cell in range(w * h)])]
    for i in range(chance.randint(0, 6)):
        calls.append(other(chance.randint(3, 255), any_bytes(chance, 40)))
    return calls


def place_of(number, *parts):
    """At which byte of file_with(*parts) the part with this number (from 0) begins."""
    return 2 + sum(len(one) for one in parts[:number])
