"""What a picture's document is, and its limits."""

MOST_SIDE = 8
MOST_LAYERS = 6
MOST_OTHERS = 6
MOST_NAME = 12
MOST_BYTE = 255
BYTE_VALUES = 256

# The kinds of parts that are known; each one above LAYER_KIND is an other.
END_KIND = 0
PAGE_KIND = 1
LAYER_KIND = 2


class Layer:
    """A layer's name (bytes) and its numbers, a byte for each cell, row by row."""

    def __init__(self, name, numbers):
        self.name = name
        self.numbers = numbers


class Document:
    """A page of some columns and rows, its layers, and its others: each a tuple of a kind and its bytes."""

    def __init__(self, columns, rows):
        self.columns = columns
        self.rows = rows
        self.layers = []
        self.others = []

    def become(self, another):
        """Takes over all that the other document holds, which is not used any more then."""
        self.columns = another.columns
        self.rows = another.rows
        self.layers = another.layers
        self.others = another.others


def is_page(columns, rows):
    return 1 <= columns <= MOST_SIDE and 1 <= rows <= MOST_SIDE


def are_bytes(numbers):
    return all([number <= MOST_BYTE for number in numbers])
