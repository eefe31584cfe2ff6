"""What can be saved of a file that's wrong."""

from picturefile.files import behind_beginning, page_of, take_layer, take_other
from picturefile.model import LAYER_KIND, PAGE_KIND
from picturefile.parts import whole_part


def saved_parts(some_bytes):
    """The parts that are whole, in order, each a tuple of its kind and its body."""
    saved = []
    at = behind_beginning(some_bytes)
    while at < len(some_bytes):
        part = whole_part(some_bytes, at)
        if part is None:
            at += 1
        else:
            kind, body, behind = part
            saved.append((kind, body))
            at = behind
    return saved


def saved_page(parts):
    """A new document with the first page that these parts tell; None if they tell none."""
    for kind, body in parts:
        if kind == PAGE_KIND:
            document = page_of(body)
            if document is not None:
                return document
    return None


def mended(some_bytes):
    """The document that is saved; None if no page is."""
    parts = saved_parts(some_bytes)
    # The page may stand behind its layers, so it's looked for ahead of all else.
    document = saved_page(parts)
    if document is None:
        return None
    for kind, body in parts:
        # A part with a fault isn't taken; which fault it has nobody asks here.
        if kind == LAYER_KIND:
            take_layer(document, body)
        elif kind > LAYER_KIND:
            take_other(document, kind, body)
    return document
