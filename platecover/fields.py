"""Fields: the picture that is to be covered, and its text."""

from platecover.reading import DIGITS

GREATEST_WIDTH = 6
GREATEST_DEPTH = 12
NO_COLOUR = "."


class Field:
    """A field: its place (x, y) is the one of the number width * y + x, as a byte of the text."""

    def __init__(self, width, depth, places):
        self.width = width
        self.depth = depth
        self.places = places


def read_field(reader):
    """Reads a whole text as a field's; where it is none the reader is stuck."""
    reader.take_signs("field ")
    width = reader.take_number(GREATEST_WIDTH)
    reader.take_signs(" ")
    depth = reader.take_number(GREATEST_DEPTH)
    reader.take_signs("\n")
    places = reader.take_rows(width, depth, DIGITS + NO_COLOUR)
    reader.take_end()
    return Field(width, depth, places)


def coloured_places(field):
    """How many places of the field have a colour."""
    return len(field.places) - field.places.count(ord(NO_COLOUR))


def colour_at(field, place):
    """The colour of the field's place of that number, or None."""
    if field.places[place] == ord(NO_COLOUR):
        return None
    return field.places[place] - ord(DIGITS[0])
