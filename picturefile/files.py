"""A document's file, written and read."""

from picturefile.model import Document, Layer, is_page
from picturefile.model import END_KIND, LAYER_KIND, PAGE_KIND, MOST_LAYERS, MOST_NAME, MOST_OTHERS
from picturefile.parts import whole_part, written_part
from picturefile.rows import read_rows, written_rows

BEGINNING = (80, 73)

NO_FAULT = 0
WRONG_BEGINNING = 1
WRONG_PART = 2
WRONG_PLACE = 3
WRONG_PAGE = 4
WRONG_LAYER = 5
WRONG_END = 6
TOO_MANY = 7


def layer_body(layer, columns):
    return [len(layer.name)] + layer.name + written_rows(layer.numbers, columns)


def written_file(document):
    written = list(BEGINNING)
    written.extend(written_part(PAGE_KIND, [document.columns, document.rows]))
    for layer in document.layers:
        written.extend(written_part(LAYER_KIND, layer_body(layer, document.columns)))
    for kind, body in document.others:
        written.extend(written_part(kind, body))
    written.extend(written_part(END_KIND, []))
    return written


def layer_of(body, columns, rows):
    """The layer that a part's body tells; None if it isn't so formed."""
    if body == [] or body[0] > MOST_NAME:
        return None
    rows_at = 1 + body[0]
    numbers = read_rows(body, rows_at, columns, rows)
    if numbers is None:
        return None
    return Layer(body[1:rows_at], numbers)


def page_of(body):
    """A new document with the page that a part's body tells; None if it isn't so formed."""
    if len(body) != 2 or not is_page(body[0], body[1]):
        return None
    return Document(body[0], body[1])


def take_page(document, body):
    told = page_of(body)
    if told is None:
        return WRONG_PAGE
    document.become(told)
    return NO_FAULT


def take_layer(document, body):
    layer = layer_of(body, document.columns, document.rows)
    if layer is None:
        return WRONG_LAYER
    if len(document.layers) == MOST_LAYERS:
        return TOO_MANY
    document.layers.append(layer)
    return NO_FAULT


def take_other(document, kind, body):
    if len(document.others) == MOST_OTHERS:
        return TOO_MANY
    document.others.append((kind, body))
    return NO_FAULT


def take_end(body, left):
    if body != [] or left > 0:
        return WRONG_END
    return NO_FAULT


def take_part(document, kind, body, left):
    """Puts a part that is whole and in its place into the document; answers its fault.

    left is how many bytes the file has behind it.
    """
    if kind == PAGE_KIND:
        return take_page(document, body)
    if kind == END_KIND:
        return take_end(body, left)
    if kind == LAYER_KIND:
        return take_layer(document, body)
    return take_other(document, kind, body)


def behind_beginning(some_bytes):
    """The place behind a file's first bytes; 0 if it doesn't begin with them."""
    if tuple(some_bytes[:len(BEGINNING)]) != BEGINNING:
        return 0
    return len(BEGINNING)


def read_file(some_bytes):
    """The document, the fault's number (NO_FAULT if there is none) and the byte at which the last part begins.

    With a fault the document holds just what was read ahead of it.
    """
    document = Document(1, 1)
    at = behind_beginning(some_bytes)
    if at == 0:
        return (document, WRONG_BEGINNING, 0)
    while at < len(some_bytes):
        part = whole_part(some_bytes, at)
        if part is None:
            return (document, WRONG_PART, at)
        kind, body, behind = part
        if (kind == PAGE_KIND) != (at == len(BEGINNING)):
            return (document, WRONG_PLACE, at)
        fault = take_part(document, kind, body, len(some_bytes) - behind)
        if fault != NO_FAULT or kind == END_KIND:
            return (document, fault, at)
        at = behind
    return (document, WRONG_END, at)
