"""The calls of the library: bytes in, a list of numbers out."""

from platecover.catalogues import is_right_catalogue, plate_numbers, read_catalogue
from platecover.fields import coloured_places, read_field
from platecover.reading import Reader

LONGEST_CATALOGUE = 1048576
LONGEST_FIELD = 16384

TOO_LONG = -2
NO_CATALOGUE = -6
CATALOGUE_NOT_RIGHT = -8
NO_FIELD = -10


def judge(f):
    """How many places of the field have a colour; or why f is refused, with the fault if it is no field's text."""
    if len(f) > LONGEST_FIELD:
        return [TOO_LONG]
    reader = Reader(f)
    field = read_field(reader)
    if reader.stuck:
        return [NO_FIELD, reader.at]
    return [coloured_places(field)]


def plates(c):
    """The numbers of the catalogue's plates, rising; or why c is refused."""
    if len(c) > LONGEST_CATALOGUE:
        return [TOO_LONG]
    reader = Reader(c)
    parts = read_catalogue(reader)
    if reader.stuck:
        return [NO_CATALOGUE]
    if not is_right_catalogue(parts):
        return [CATALOGUE_NOT_RIGHT]
    return plate_numbers(parts)
