"""The calls of the library: bytes in, a list of numbers out."""

from platecover.builds import build_text, is_build_name
from platecover.catalogues import is_right_catalogue, plate_numbers, read_catalogue
from platecover.fields import coloured_places, read_field
from platecover.laying import Laying, cover_counts, fewest_lines, first_of_fewest, nth_cover
from platecover.reading import Reader

LONGEST_CATALOGUE = 1048576
LONGEST_FIELD = 16384

NO_NAME = -1
TOO_LONG = -2
NO_COVER = -3
NO_CATALOGUE = -6
CATALOGUE_NOT_RIGHT = -8
NO_FIELD = -10


class Given:
    """A catalogue's parts and a field as they were handed in; or the refusal, which is 0 if there is none."""

    def __init__(self, refusal, parts, field):
        self.refusal = refusal
        self.parts = parts
        self.field = field


def read_right_catalogue(c):
    """The parts of the catalogue whose text is c; or why c is refused."""
    reader = Reader(c)
    parts = read_catalogue(reader)
    if reader.stuck:
        return Given(NO_CATALOGUE, None, None)
    if not is_right_catalogue(parts):
        return Given(CATALOGUE_NOT_RIGHT, None, None)
    return Given(0, parts, None)


def read_given(c, f):
    """The catalogue's parts and the field whose texts are c and f; or why they are refused."""
    if len(c) > LONGEST_CATALOGUE or len(f) > LONGEST_FIELD:
        return Given(TOO_LONG, None, None)
    given = read_right_catalogue(c)
    if given.refusal < 0:
        return given
    reader = Reader(f)
    field = read_field(reader)
    if reader.stuck:
        return Given(NO_FIELD, None, None)
    return Given(0, given.parts, field)


def told_text(text):
    """The answer that tells a text: how many bytes it has, and then these."""
    return [len(text)] + text


def judge(f):
    """How many places of the field have a colour; or why f is refused, with the fault if it is no field's text."""
    if len(f) > LONGEST_FIELD:
        return [TOO_LONG]
    reader = Reader(f)
    field = read_field(reader)
    if reader.stuck:
        return [NO_FIELD, reader.at]
    return [coloured_places(field)]


def plates(c):
    """The numbers of the catalogue's plates, rising; or why c is refused."""
    if len(c) > LONGEST_CATALOGUE:
        return [TOO_LONG]
    given = read_right_catalogue(c)
    if given.refusal < 0:
        return [given.refusal]
    return plate_numbers(given.parts)


def fewest(c, f):
    """The fewest lines that a cover of the field has; or the refusal."""
    given = read_given(c, f)
    if given.refusal < 0:
        return [given.refusal]
    laying = Laying(given.parts, given.field)
    lines = fewest_lines(laying)
    if laying.coloured not in lines:
        return [NO_COVER]
    return [lines[laying.coloured]]


def first(c, f, s):
    """How long the text of the first of the covers with the fewest lines is, and the text; or the refusal."""
    if not is_build_name(s):
        return [NO_NAME]
    given = read_given(c, f)
    if given.refusal < 0:
        return [given.refusal]
    laying = Laying(given.parts, given.field)
    lines = fewest_lines(laying)
    if laying.coloured not in lines:
        return [NO_COVER]
    return told_text(build_text(s, given.parts, first_of_fewest(laying, lines)))


def count(c, f):
    """How many covers of the field there are; or the refusal."""
    given = read_given(c, f)
    if given.refusal < 0:
        return [given.refusal]
    laying = Laying(given.parts, given.field)
    return [cover_counts(laying)[laying.coloured]]


def nth(i, c, f, s):
    """How long the text of cover i is, and the text; or the refusal."""
    if not is_build_name(s):
        return [NO_NAME]
    given = read_given(c, f)
    if given.refusal < 0:
        return [given.refusal]
    laying = Laying(given.parts, given.field)
    counts = cover_counts(laying)
    if i >= counts[laying.coloured]:
        return [NO_COVER]
    return told_text(build_text(s, given.parts, nth_cover(laying, counts, i)))
