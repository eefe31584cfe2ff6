"""The calls on a document, and their answers."""

from picturefile.files import NO_FAULT, read_file, written_file
from picturefile.mending import mended
from picturefile.model import Document, Layer, are_bytes, is_page
from picturefile.model import LAYER_KIND, MOST_BYTE, MOST_LAYERS, MOST_NAME, MOST_OTHERS
from picturefile.rows import written_rows
from picturefile.shorts import in_short, whole_short

# The calls' numbers; long has the one behind these.
PAGE = 0
LAYER = 1
CELLS = 2
OTHER = 3
DROP = 4
WRITE = 5
READ = 6
MEND = 7
SHOWS = 8
LOOK = 9
OTHERS = 10
SHORT = 11

# By a call's number: how many whole numbers it has ahead of its row, and whether it has a row.
WHOLE_NUMBERS = (2, 0, 1, 1, 1, 0, 0, 0, 0, 1, 0, 0, 1)
HAS_ROW = (False, True, True, True, False, False, True, True, False, False, False, True, True)

# Refusals. A fault of a file is told below FAULTS_FROM.
OUT_OF_RANGE = -1
ILL_FORMED = -2
FULL = -5
NOT_SO_MANY = -6
NO_PAGE = -13
FAULTS_FROM = -10

# What a file tells of an other may be longer: this holds for the call alone.
MOST_OTHER_BYTES = 40

# How many bytes are told in short, or read from that, by a call; a file's rows have far fewer.
MOST_SHORT = 400


def page(document, columns, rows):
    if not is_page(columns, rows):
        return [OUT_OF_RANGE]
    document.become(Document(columns, rows))
    return [0]


def layer(document, name):
    if len(name) > MOST_NAME or not are_bytes(name):
        return [ILL_FORMED]
    if len(document.layers) == MOST_LAYERS:
        return [FULL]
    document.layers.append(Layer(name, [0] * (document.columns * document.rows)))
    return [len(document.layers) - 1]


def cells(document, i, numbers):
    if i >= len(document.layers):
        return [OUT_OF_RANGE]
    if len(numbers) != document.columns * document.rows or not are_bytes(numbers):
        return [ILL_FORMED]
    document.layers[i].numbers = numbers
    return [len(written_rows(numbers, document.columns))]


def other(document, kind, some_bytes):
    if not LAYER_KIND < kind <= MOST_BYTE or len(some_bytes) > MOST_OTHER_BYTES or not are_bytes(some_bytes):
        return [ILL_FORMED]
    if len(document.others) == MOST_OTHERS:
        return [FULL]
    document.others.append((kind, some_bytes))
    return [len(document.others) - 1]


def drop(document, i):
    if i >= len(document.layers):
        return [OUT_OF_RANGE]
    document.layers.pop(i)
    return [len(document.layers)]


def write(document):
    written = written_file(document)
    return [len(written)] + written


def read(document, some_bytes):
    if not are_bytes(some_bytes):
        return [ILL_FORMED]
    read_one, fault, at = read_file(some_bytes)
    if fault != NO_FAULT:
        return [FAULTS_FROM - fault, at]
    document.become(read_one)
    return how_it_stands(document)


def mend(document, some_bytes):
    if not are_bytes(some_bytes):
        return [ILL_FORMED]
    saved = mended(some_bytes)
    if saved is None:
        return [NO_PAGE]
    document.become(saved)
    return how_it_stands(document)


def how_it_stands(document):
    return [document.columns, document.rows, len(document.layers), len(document.others)]


def shows(document):
    shown = how_it_stands(document)
    for one in document.layers:
        shown.append(len(one.name))
        shown.append(sum(one.numbers))
    return shown


def look(document, i):
    if i >= len(document.layers):
        return [OUT_OF_RANGE]
    looked_at = document.layers[i]
    return [len(looked_at.name)] + looked_at.name + looked_at.numbers


def others(document):
    told = [len(document.others)]
    for kind, some_bytes in document.others:
        told.append(kind)
        told.append(len(some_bytes))
        told.extend(some_bytes)
    return told


def short(numbers):
    if len(numbers) > MOST_SHORT or not are_bytes(numbers):
        return [ILL_FORMED]
    return in_short(numbers)


def long(n, some_bytes):
    if n > MOST_SHORT or not are_bytes(some_bytes):
        return [ILL_FORMED]
    numbers = whole_short(some_bytes, n)
    if numbers is None:
        return [NOT_SO_MANY]
    return numbers


def answer(document, call, whole, row):
    if call == PAGE:
        return page(document, whole[0], whole[1])
    if call == LAYER:
        return layer(document, row)
    if call == CELLS:
        return cells(document, whole[0], row)
    if call == OTHER:
        return other(document, whole[0], row)
    if call == DROP:
        return drop(document, whole[0])
    if call == WRITE:
        return write(document)
    if call == READ:
        return read(document, row)
    if call == MEND:
        return mend(document, row)
    if call == SHOWS:
        return shows(document)
    if call == LOOK:
        return look(document, whole[0])
    if call == OTHERS:
        return others(document)
    if call == SHORT:
        return short(row)
    return long(whole[0], row)


def answers(calls):
    """For each call of the list, in order: how many numbers are answered, and these."""
    document = Document(1, 1)
    given = []
    at = 0
    while at < len(calls):
        call = calls[at]
        row_at = at + 1 + WHOLE_NUMBERS[call]
        whole = calls[at + 1:row_at]
        row = []
        at = row_at
        if HAS_ROW[call]:
            at = row_at + 1 + calls[row_at]
            row = calls[row_at + 1:at]
        answered = answer(document, call, whole, row)
        given.append(len(answered))
        given.extend(answered)
    return given
