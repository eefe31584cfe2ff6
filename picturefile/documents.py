"""The calls on a document, and their answers."""

from picturefile.files import NO_FAULT, read_file, written_file
from picturefile.model import Document, Layer, are_bytes, is_page
from picturefile.model import LAYER_KIND, MOST_BYTE, MOST_LAYERS, MOST_NAME, MOST_OTHERS
from picturefile.rows import written_rows

# The calls' numbers; read has the one behind these.
PAGE = 0
LAYER = 1
CELLS = 2
OTHER = 3
DROP = 4
WRITE = 5

# By a call's number: how many whole numbers it has ahead of its row, and whether it has a row.
WHOLE_NUMBERS = (2, 0, 1, 1, 1, 0, 0)
HAS_ROW = (False, True, True, True, False, False, True)

# Refusals. A fault of a file is told below FAULTS_FROM.
OUT_OF_RANGE = -1
ILL_FORMED = -2
FULL = -5
FAULTS_FROM = -10

# What a file tells of an other may be longer: this holds for the call alone.
MOST_OTHER_BYTES = 40


def page(document, columns, rows):
    if not is_page(columns, rows):
        return [OUT_OF_RANGE]
    document.become(Document(columns, rows))
    return [0]


def layer(document, name):
    if len(name) > MOST_NAME or not are_bytes(name):
        return [ILL_FORMED]
    if len(document.layers) == MOST_LAYERS:
        return [FULL]
    document.layers.append(Layer(name, [0] * (document.columns * document.rows)))
    return [len(document.layers) - 1]


def cells(document, i, numbers):
    if i >= len(document.layers):
        return [OUT_OF_RANGE]
    if len(numbers) != document.columns * document.rows or not are_bytes(numbers):
        return [ILL_FORMED]
    document.layers[i].numbers = numbers
    return [len(written_rows(numbers, document.columns))]


def other(document, kind, some_bytes):
    if not LAYER_KIND < kind <= MOST_BYTE or len(some_bytes) > MOST_OTHER_BYTES or not are_bytes(some_bytes):
        return [ILL_FORMED]
    if len(document.others) == MOST_OTHERS:
        return [FULL]
    document.others.append((kind, some_bytes))
    return [len(document.others) - 1]


def drop(document, i):
    if i >= len(document.layers):
        return [OUT_OF_RANGE]
    document.layers.pop(i)
    return [len(document.layers)]


def write(document):
    written = written_file(document)
    return [len(written)] + written


def read(document, some_bytes):
    if not are_bytes(some_bytes):
        return [ILL_FORMED]
    read_one, fault, at = read_file(some_bytes)
    if fault != NO_FAULT:
        return [FAULTS_FROM - fault, at]
    document.become(read_one)
    return how_it_stands(document)


def how_it_stands(document):
    return [document.columns, document.rows, len(document.layers), len(document.others)]


def answer(document, call, whole, row):
    if call == PAGE:
        return page(document, whole[0], whole[1])
    if call == LAYER:
        return layer(document, row)
    if call == CELLS:
        return cells(document, whole[0], row)
    if call == OTHER:
        return other(document, whole[0], row)
    if call == DROP:
        return drop(document, whole[0])
    if call == WRITE:
        return write(document)
    return read(document, row)


def answers(calls):
    """For each call of the list, in order: how many numbers are answered, and these."""
    document = Document(1, 1)
    given = []
    at = 0
    while at < len(calls):
        call = calls[at]
        row_at = at + 1 + WHOLE_NUMBERS[call]
        whole = calls[at + 1:row_at]
        row = []
        at = row_at
        if HAS_ROW[call]:
            at = row_at + 1 + calls[row_at]
            row = calls[row_at + 1:at]
        answered = answer(document, call, whole, row)
        given.append(len(answered))
        given.extend(answered)
    return given
